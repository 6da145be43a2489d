/- Steps of scenes undone: the conditions hold. -/
import Derived.Test.YtpkokghbkamelaaDoorSUVc
import Derived.Test.YtpkokghbkamelaaDoorSUSpec
namespace Go.Vi
set_option linter.unusedSimpArgs false
set_option linter.unusedVariables false
theorem pigeon : ∀ (N : Nat) (g : Nat -> Nat), (∀ i, i <= N -> g i < N) -> ∃ i j, i < j /\ j <= N /\ g i = g j
 | 0, g, h => absurd (h 0 (Nat.le_refl _)) (Nat.not_lt_zero _)
 | N + 1, g, h => by
  by_cases hv : ∃ i, i <= N /\ g i = g (N + 1)
  ·obtain ⟨i, hi, he⟩ := hv
   exact ⟨i, N + 1, by omega, Nat.le_refl _, he⟩
  ·have hne : ∀ i, i <= N -> g i ≠ g (N + 1) := fun i hi he => hv ⟨i, hi, he⟩
   have hl := h (N + 1) (Nat.le_refl _)
   obtain ⟨i, j, hij, hj, he⟩ := pigeon N (fun i => if g i < g (N + 1) then g i else g i - 1) (fun i hi => by
    have h1 := hne i hi
    have h2 := h i (by omega)
    split <;> omega)
   refine ⟨i, j, hij, by omega, ?_⟩
   have h1 := hne i (by omega)
   have h2 := hne j hj
   split at he <;> split at he <;> omega
theorem code_inj {i a b a' b' : Int} (hi : 1 <= i /\ i <= 4) (ha : 0 <= a /\ a <= i - 1) (ha' : 0 <= a' /\ a' <= i - 1) (h : b * i + a = b' * i + a') : a = a' /\ b = b' := by
 have e : i = 1 \/ i = 2 \/ i = 3 \/ i = 4 := by omega
 rcases e with rfl | rfl | rfl | rfl <;> omega
def matchR (l : List Row3) (p q : Int) (k : Nat) : Prop := (l.getD k default).a = p /\ (l.getD k default).b = q
theorem fwF_spec (p q : Int) : ∀ (l : List Row3) (i : Int), (∃ k, k < l.length /\ matchR l p q k) -> i <= fwF l p q i /\ fwF l p q i < i + l.length /\ matchR l p q (fwF l p q i - i).toNat
 | [], i, ⟨k, hk, _⟩ => by simp at hk
 | r :: l, i, ⟨k, hk, hm⟩ => by
  unfold fwF
  cases hr : r.a == p && r.b == q with
  | true =>
   rw [cond_true]
   simp only [Bool.and_eq_true, beq_iff_eq] at hr
   refine ⟨Int.le_refl _, by simp only [List.length_cons]; omega, ?_⟩
   rw [Int.sub_self]
   exact hr
  | false =>
   rw [cond_false]
   have hk0 : k ≠ 0 := fun h0 => by
    subst h0
    have h1 : r.a = p /\ r.b = q := hm
    rw [h1.1, h1.2] at hr
    simp at hr
   obtain ⟨m, rfl⟩ : ∃ m, k = m + 1 := ⟨k - 1, by omega⟩
   have hm' : matchR l p q m := hm
   obtain ⟨h1, h2, h3⟩ := fwF_spec p q l (i + 1) ⟨m, by simpa using hk, hm'⟩
   refine ⟨by omega, by simp only [List.length_cons]; omega, ?_⟩
   rw [show (fwF l p q (i + 1) - i).toNat = (fwF l p q (i + 1) - (i + 1)).toNat + 1 by omega]
   exact h3
theorem undo_ne {l : List Row3} (hu : undoB l = true) {j k : Nat} (hj : j < k) (hk : k < l.length) : ¬ ((l.getD k default).a = (l.getD j default).a /\ (l.getD k default).b = (l.getD j default).b) := by
 intro he
 unfold undoB at hu
 have h1 := List.all_eq_true.1 hu k (List.mem_range.2 hk)
 rw [Bool.not_eq_true'] at h1
 unfold dupAt at h1
 rw [List.any_eq_false] at h1
 have hmem : l.getD j default ∈ l.take k := by
  rw [List.getD_eq_getElem?_getD, List.getElem?_eq_getElem (by omega), Option.getD_some]
  exact List.mem_take_iff_getElem.2 ⟨j, by omega, rfl⟩
 have h2 := h1 _ hmem
 unfold sameO at h2
 rw [he.1, he.2] at h2
 simp at h2
theorem undo_found {s i : Int} {l : List Row3} (ht : tabB s i l = true) (hu : undoB l = true) {p q : Int} (hp : 0 <= p /\ p <= i - 1) (hq : 0 <= q /\ q <= s - 1) : 0 <= fwF l p q 0 /\ fwF l p q 0 < l.length /\ matchR l p q (fwF l p q 0).toNat := by
 obtain ⟨h1, h2, h3, h4⟩ := tab_iff ht
 have hrow : ∀ k, k < l.length -> (0 <= (l.getD k default).a /\ (l.getD k default).a <= i - 1) /\ (0 <= (l.getD k default).b /\ (l.getD k default).b <= s - 1) := fun k hk => by
  have hm : l.getD k default ∈ l := by
   rw [List.getD_eq_getElem?_getD, List.getElem?_eq_getElem hk, Option.getD_some]
   exact List.getElem_mem hk
  have hr := List.all_eq_true.1 h4 _ hm
  unfold rowG at hr
  simp only [Bool.and_eq_true, inB_eq] at hr
  exact ⟨hr.1.1, hr.2⟩
 have hex : ∃ k, k < l.length /\ matchR l p q k := by
  obtain ⟨j, k, hjk, hk, he⟩ := pigeon l.length (fun k => if k < l.length then ((l.getD k default).b * i + (l.getD k default).a).toNat else (q * i + p).toNat) (fun k hk => by
   split
   ·rename_i hlt
    have hr := hrow k hlt
    have := row_ix h1 h2 h3 hr.2 hr.1
    omega
   ·have := row_ix h1 h2 h3 hq hp
    omega)
  have hj : j < l.length := by omega
  have rj := hrow j hj
  have xj := row_ix h1 h2 h3 rj.2 rj.1
  simp only [hj, if_true] at he
  by_cases hkl : k < l.length
  ·have rk := hrow k hkl
   have xk := row_ix h1 h2 h3 rk.2 rk.1
   simp only [hkl, if_true] at he
   have hc := code_inj h2 rj.1 rk.1 (b := (l.getD j default).b) (b' := (l.getD k default).b) (by omega)
   exact absurd ⟨hc.1.symm, hc.2.symm⟩ (undo_ne hu hjk hkl)
  ·have xp := row_ix h1 h2 h3 hq hp
   simp only [hkl, if_false] at he
   have hc := code_inj h2 rj.1 hp (b := (l.getD j default).b) (b' := q) (by omega)
   exact ⟨j, hj, hc.1, hc.2⟩
 have := fwF_spec p q l 0 hex
 rw [Int.sub_zero, Int.zero_add] at this
 exact this
structure UF (s i : Int) (l : List Row3) (a : Sx) : Prop where
 cel : cellsX (bkX a) = true
 has : hasX (bkX a) (bkX a).x (bkX a).y = true
 d : 0 <= a.d /\ a.d <= 3
 q : 0 <= a.q /\ a.q <= s - 1
 i4 : 1 <= i /\ i <= 4
 col : 0 <= colX (bkX a) (bkX a).x (bkX a).y /\ colX (bkX a) (bkX a).x (bkX a).y <= i - 1
 k0 : 0 <= fwX l a
 kl : fwX l a < l.length
 l16 : l.length <= 16
 mt : matchR l (colX (bkX a) (bkX a).x (bkX a).y) a.q (fwX l a).toNat
 md : 0 <= fwX l a % i /\ fwX l a % i <= 3
 qt : qtI (l.getD (fwX l a).toNat default).t = turnI (((l.getD (fwX l a).toNat default).t.getD 0 0).toNat : Int) /\ 0 <= qtI (l.getD (fwX l a).toNat default).t /\ qtI (l.getD (fwX l a).toNat default).t <= 3 /\ (l.getD (fwX l a).toNat default).t.length = 1
theorem undo_facts {s i : Int} {l : List Row3} {a : Sx} (ht : tabB s i l = true) (hg : goodX s i a = true) (hu : undoB l = true) : UF s i l a := by
 obtain ⟨c1, c2, c3, c4, c5⟩ := good_iff.1 hg
 obtain ⟨_, h2, _, h4⟩ := tab_iff ht
 have hcel : cellsX (bkX a) = true := c1
 have hhas : hasX (bkX a) (bkX a).x (bkX a).y = true := has_mov c1 (-1)
 have hb := cell_bd hcel hhas
 have hc := col_bd (u := (bkX a).u) c2 (i := cIx (bkX a) (bkX a).x (bkX a).y) (by unfold cIx; omega)
 have hcol : 0 <= colX (bkX a) (bkX a).x (bkX a).y /\ colX (bkX a) (bkX a).x (bkX a).y <= i - 1 := by
  unfold colX
  omega
 obtain ⟨f1, f2, f3⟩ := undo_found ht hu hcol c5
 have hl := (tab_bd ht).2.1
 have hm := emod_bd (fwX l a) (m := i) h2.1
 have hlt : (fwX l a).toNat < l.length := by
  have : fwX l a < l.length := f2
  have : 0 <= fwX l a := f1
  omega
 have hmem : l.getD (fwX l a).toNat default ∈ l := by
  rw [List.getD_eq_getElem?_getD, List.getElem?_eq_getElem hlt, Option.getD_some]
  exact List.getElem_mem hlt
 have hr := List.all_eq_true.1 h4 _ hmem
 unfold rowG at hr
 simp only [Bool.and_eq_true] at hr
 exact ⟨hcel, hhas, c4, c5, h2, hcol, f1, f2, hl, f3, ⟨hm.1, by omega⟩, qt_turn hr.1.2⟩
theorem tdiv_ediv {a b : Int} (ha : 0 <= a) : Int.tdiv a b = a / b := Int.tdiv_eq_ediv_of_nonneg ha
theorem vc_impl_actor_goBack (w h : Int) (u : List UInt8) (x y d q s i : Int) (n : Nat) (c : List Sc) (g0 g1 g2 g3 : List UInt8) (hp : is3 c n /\ n <= 2000000 /\ isSg g0 g1 g2 g3 /\ tabB s i (rows3 c) = true /\ goodX s i ⟨w, h, u, x, y, d, q⟩ = true /\ undoB (rows3 c) = true) : VC_impl_actor_goBack w h u x y d q s i n c g0 g1 g2 g3 (retG 2 (acV (undX i (rows3 c) ⟨w, h, u, x, y, d, q⟩)) [⟨.recs [.int .i64, .str, .int .i64] c, 96, .rows 3⟩, ⟨.vals [.str g0, .str g1, .str g2, .str g3], 9, .gl 0⟩]) := by
 obtain ⟨h1, h2, hsg, ht, hg, hu⟩ := hp
 have F := undo_facts ht hg hu
 have hce : cellsX ⟨w, h, u, x, y, d, 0⟩ = true := (good_iff.1 hg).1
 have hha : hasX ⟨w, h, u, x, y, d, 0⟩ x y = true := (good_iff.1 hg).2.2.1
 have hl := is3_len h1
 have k0 := F.k0
 have kl := F.kl
 rw [h1.2] at kl
 have hi := F.i4
 have hm := F.md
 have hd : 0 <= d /\ d <= 3 := F.d
 obtain ⟨q0, q1, q2, q3⟩ := F.qt
 have hbc : cellsX ⟨(bkX ⟨w, h, u, x, y, d, q⟩).w, (bkX ⟨w, h, u, x, y, d, q⟩).h, (bkX ⟨w, h, u, x, y, d, q⟩).u, (bkX ⟨w, h, u, x, y, d, q⟩).x, (bkX ⟨w, h, u, x, y, d, q⟩).y, (bkX ⟨w, h, u, x, y, d, q⟩).d, 0⟩ = true := F.cel
 have hbh : hasX ⟨(bkX ⟨w, h, u, x, y, d, q⟩).w, (bkX ⟨w, h, u, x, y, d, q⟩).h, (bkX ⟨w, h, u, x, y, d, q⟩).u, (bkX ⟨w, h, u, x, y, d, q⟩).x, (bkX ⟨w, h, u, x, y, d, q⟩).y, (bkX ⟨w, h, u, x, y, d, q⟩).d, 0⟩ (bkX ⟨w, h, u, x, y, d, q⟩).x (bkX ⟨w, h, u, x, y, d, q⟩).y = true := F.has
 have hk : fwF (rows3 c) (colX (bkX ⟨w, h, u, x, y, d, q⟩) (bkX ⟨w, h, u, x, y, d, q⟩).x (bkX ⟨w, h, u, x, y, d, q⟩).y) (bkX ⟨w, h, u, x, y, d, q⟩).q 0 = fwX (rows3 c) ⟨w, h, u, x, y, d, q⟩ := rfl
 obtain ⟨r1, r2, r3⟩ := row_get h1 (j := (fwX (rows3 c) ⟨w, h, u, x, y, d, q⟩).toNat) (by omega) ⟨0, []⟩
 have hq3 : fwX (rows3 c) ⟨w, h, u, x, y, d, q⟩ / i <= fwX (rows3 c) ⟨w, h, u, x, y, d, q⟩ := Int.ediv_le_self _ k0
 have hq0 : 0 <= fwX (rows3 c) ⟨w, h, u, x, y, d, q⟩ / i := Int.ediv_nonneg k0 (by omega)
 have l16 := F.l16
 rw [h1.2] at l16
 have hund : undX i (rows3 c) ⟨w, h, u, x, y, d, q⟩ = { trnX (pntX (bkX ⟨w, h, u, x, y, d, q⟩) (bkX ⟨w, h, u, x, y, d, q⟩).x (bkX ⟨w, h, u, x, y, d, q⟩).y (fwX (rows3 c) ⟨w, h, u, x, y, d, q⟩ % i)) (4 - qtI ((rows3 c).getD (fwX (rows3 c) ⟨w, h, u, x, y, d, q⟩).toNat default).t) with q := fwX (rows3 c) ⟨w, h, u, x, y, d, q⟩ / i } := rfl
 unfold VC_impl_actor_goBack
 try unfold sX
 rw [hk, r2]
 generalize hK : fwX (rows3 c) ⟨w, h, u, x, y, d, q⟩ = K at *
 generalize hT : ((rows3 c).getD K.toNat default).t = T at *
 rw [tmod_emod k0, tdiv_ediv k0, wrap64_in (x := K / i) (by omega), wrap64_in (x := 4 - qtI T) (by omega)]
 refine ⟨?_, ?_, ?_, ⟨by omega⟩, ?_⟩
 case refine_4 =>
  rw [hund]
  exact retG_ac (b := { trnX (pntX (bkX ⟨w, h, u, x, y, d, q⟩) (bkX ⟨w, h, u, x, y, d, q⟩).x (bkX ⟨w, h, u, x, y, d, q⟩).y (K % i)) (4 - qtI T) with q := K / i }) rfl
 all_goals
  simp only [at_iff, hce, hha, hbc, hbh, h1, h2, hsg, true_and, and_true, and_self]
 ·repeat' apply And.intro
  all_goals first | rfl | trivial | omega
 ·repeat' apply And.intro
  all_goals first | rfl | trivial | omega
 ·repeat' apply And.intro
  all_goals first
   | rfl
   | trivial
   | omega
   | exact hm.1
   | exact hd.1
   | exact hd.2
   | (show shAt _ _ = _; simp [shAt])
   | skip
theorem vc_impl_UndoScene (s i : Int) (n : Nat) (c : List Sc) (w h : Int) (u : List UInt8) (x y d q : Int) (g0 g1 g2 g3 : List UInt8) (hp : is3 c n /\ n <= 2000000 /\ isSg g0 g1 g2 g3) : VC_impl_UndoScene s i n c w h u x y d q g0 g1 g2 g3 (retG 2 (.tup [.agg [.int .i64 (zI (sceneB s i (rows3 c) w h u x y d q && undoB (rows3 c)) s), .int .i64 (zI (sceneB s i (rows3 c) w h u x y d q && undoB (rows3 c)) i), .row 2 (esR (sceneB s i (rows3 c) w h u x y d q && undoB (rows3 c)) (rows3 c)).length, .int .i64 (unX (sceneB s i (rows3 c) w h u x y d q && undoB (rows3 c)) i (rows3 c) ⟨w, h, u, x, y, d, q⟩).w, .int .i64 (unX (sceneB s i (rows3 c) w h u x y d q && undoB (rows3 c)) i (rows3 c) ⟨w, h, u, x, y, d, q⟩).h, .str (unX (sceneB s i (rows3 c) w h u x y d q && undoB (rows3 c)) i (rows3 c) ⟨w, h, u, x, y, d, q⟩).u, .int .i64 (unX (sceneB s i (rows3 c) w h u x y d q && undoB (rows3 c)) i (rows3 c) ⟨w, h, u, x, y, d, q⟩).x, .int .i64 (unX (sceneB s i (rows3 c) w h u x y d q && undoB (rows3 c)) i (rows3 c) ⟨w, h, u, x, y, d, q⟩).y, .int .i64 (unX (sceneB s i (rows3 c) w h u x y d q && undoB (rows3 c)) i (rows3 c) ⟨w, h, u, x, y, d, q⟩).d, .int .i64 (unX (sceneB s i (rows3 c) w h u x y d q && undoB (rows3 c)) i (rows3 c) ⟨w, h, u, x, y, d, q⟩).q], .bool (sceneB s i (rows3 c) w h u x y d q && undoB (rows3 c))]) [⟨.recs [.int .i64, .str, .int .i64] c, 96, .rows 3⟩, ⟨.vals [.str g0, .str g1, .str g2, .str g3], 9, .gl 0⟩, ⟨.recs [.int .i64, .str, .int .i64] (flat3 (esR (sceneB s i (rows3 c) w h u x y d q && undoB (rows3 c)) (rows3 c))), 96, .rows 3⟩]) := by
 obtain ⟨h1, h2, hsg⟩ := hp
 unfold VC_impl_UndoScene
 try unfold sX
 refine ⟨⟨h1, h2, hsg⟩, fun t1 => ?_, fun t1 => ⟨fun t2 => ?_, fun t2 => ⟨⟨h1, h2, hsg⟩, fun t3 => ?_, fun t3 => ?_⟩⟩⟩
 ·rw [Bool.not_eq_true'] at t1
  have hb : (sceneB s i (rows3 c) w h u x y d q && undoB (rows3 c)) = false := by
   unfold sceneB
   rw [t1]; rfl
  rw [hb]
  exact retG_n2
 ·rw [Bool.not_eq_true'] at t2
  rw [Bool.not_eq_false'] at t1
  rw [t1, Bool.true_and] at t2
  rw [t2, Bool.and_false]
  exact retG_n2
 ·rw [Bool.not_eq_true'] at t3
  rw [t3, Bool.false_and]
  exact retG_n2
 ·rw [Bool.not_eq_false'] at t2 t3
  rw [Bool.and_eq_true] at t2
  have hu := t2.2
  obtain ⟨ht, hg⟩ := scene_yes t3
  have hn := (tab_bd ht).1
  rw [h1.2] at hn
  rw [t3, hu]
  refine ⟨⟨h1, h2⟩, by simp [iterU], ⟨by omega, by omega, rfl⟩, fun a ha => ⟨fun hlt => ?_, fun hge => ?_⟩⟩
  ·have hlt := of_decide_eq_true hlt
   obtain ⟨a0, a1, _⟩ := ha
   have e : a = 0 := by omega
   subst e
   rw [wrap64_in (x := 0 + 1) (by omega)]
   exact ⟨⟨h1, h2, hsg, ht, hg, rfl⟩, by simp [iterU], ⟨⟨by omega, by omega, rfl⟩, by omega⟩⟩
  ·have hge := of_decide_eq_false hge
   obtain ⟨a0, a1, _⟩ := ha
   have e : a = 1 := by omega
   subst e
   exact ⟨⟨h1, h2, hn⟩, retG_y2 (.inr rfl) h1.2.symm h1.1⟩
theorem vc_spec_UndoScene (s i : Int) (n : Nat) (c : List Sc) (w h : Int) (u : List UInt8) (x y d q : Int) (hp : is3 c n /\ n <= 2000000) : VC_spec_UndoScene s i n c w h u x y d q (retG 1 (.tup [.agg [.int .i64 (zI (sceneB s i (rows3 c) w h u x y d q && undoB (rows3 c)) s), .int .i64 (zI (sceneB s i (rows3 c) w h u x y d q && undoB (rows3 c)) i), .row 1 (esR (sceneB s i (rows3 c) w h u x y d q && undoB (rows3 c)) (rows3 c)).length, .int .i64 (unX (sceneB s i (rows3 c) w h u x y d q && undoB (rows3 c)) i (rows3 c) ⟨w, h, u, x, y, d, q⟩).w, .int .i64 (unX (sceneB s i (rows3 c) w h u x y d q && undoB (rows3 c)) i (rows3 c) ⟨w, h, u, x, y, d, q⟩).h, .str (unX (sceneB s i (rows3 c) w h u x y d q && undoB (rows3 c)) i (rows3 c) ⟨w, h, u, x, y, d, q⟩).u, .int .i64 (unX (sceneB s i (rows3 c) w h u x y d q && undoB (rows3 c)) i (rows3 c) ⟨w, h, u, x, y, d, q⟩).x, .int .i64 (unX (sceneB s i (rows3 c) w h u x y d q && undoB (rows3 c)) i (rows3 c) ⟨w, h, u, x, y, d, q⟩).y, .int .i64 (unX (sceneB s i (rows3 c) w h u x y d q && undoB (rows3 c)) i (rows3 c) ⟨w, h, u, x, y, d, q⟩).d, .int .i64 (unX (sceneB s i (rows3 c) w h u x y d q && undoB (rows3 c)) i (rows3 c) ⟨w, h, u, x, y, d, q⟩).q], .bool (sceneB s i (rows3 c) w h u x y d q && undoB (rows3 c))]) [⟨.recs [.int .i64, .str, .int .i64] c, 96, .rows 3⟩, ⟨.recs [.int .i64, .str, .int .i64] (flat3 (esR (sceneB s i (rows3 c) w h u x y d q && undoB (rows3 c)) (rows3 c))), 96, .rows 3⟩]) := by
 obtain ⟨h1, h2⟩ := hp
 unfold VC_spec_UndoScene
 try unfold sX
 refine ⟨⟨h1, h2⟩, fun t1 => ?_, fun t1 => ⟨⟨h1, h2⟩, fun t2 => ?_, fun t2 => ?_⟩⟩
 ·rw [Bool.not_eq_true'] at t1
  rw [t1, Bool.false_and]
  exact retG_n1
 ·rw [Bool.not_eq_true'] at t2
  rw [t2, Bool.and_false]
  exact retG_n1
 ·rw [Bool.not_eq_false'] at t1 t2
  obtain ⟨ht, hg⟩ := scene_yes t1
  have hn := (tab_bd ht).1
  rw [h1.2] at hn
  have F := undo_facts ht hg t2
  have hl := is3_len h1
  have hd : 0 <= d /\ d <= 3 := F.d
  have hi := F.i4
  have l16 := F.l16
  rw [h1.2] at l16
  have kl := F.kl
  have k0 := F.k0
  obtain ⟨q0, q1, q2, q3⟩ := F.qt
  have hmc : cellsX (movX ⟨w, h, u, x, y, d, q⟩ (-1)) = true := F.cel
  have hmh : hasX (movX ⟨w, h, u, x, y, d, q⟩ (-1)) (movX ⟨w, h, u, x, y, d, q⟩ (-1)).x (movX ⟨w, h, u, x, y, d, q⟩ (-1)).y = true := F.has
  have hcol : 0 <= colX (movX ⟨w, h, u, x, y, d, q⟩ (-1)) (movX ⟨w, h, u, x, y, d, q⟩ (-1)).x (movX ⟨w, h, u, x, y, d, q⟩ (-1)).y /\ colX (movX ⟨w, h, u, x, y, d, q⟩ (-1)) (movX ⟨w, h, u, x, y, d, q⟩ (-1)).x (movX ⟨w, h, u, x, y, d, q⟩ (-1)).y <= i - 1 := F.col
  obtain ⟨e1, e2, e3, f1, f2, f5, f6⟩ := ix_facts hmc hmh
  have hcell : (((movX ⟨w, h, u, x, y, d, q⟩ (-1)).u.getD ((movX ⟨w, h, u, x, y, d, q⟩ (-1)).y * (movX ⟨w, h, u, x, y, d, q⟩ (-1)).w + (movX ⟨w, h, u, x, y, d, q⟩ (-1)).x).toNat 0).toNat : Int) - 48 = colX (movX ⟨w, h, u, x, y, d, q⟩ (-1)) (movX ⟨w, h, u, x, y, d, q⟩ (-1)).x (movX ⟨w, h, u, x, y, d, q⟩ (-1)).y := rfl
  have hund : undX i (rows3 c) ⟨w, h, u, x, y, d, q⟩ = { trnX (pntX (movX ⟨w, h, u, x, y, d, q⟩ (-1)) (movX ⟨w, h, u, x, y, d, q⟩ (-1)).x (movX ⟨w, h, u, x, y, d, q⟩ (-1)).y (fwX (rows3 c) ⟨w, h, u, x, y, d, q⟩ % i)) (4 - qtI ((rows3 c).getD (fwX (rows3 c) ⟨w, h, u, x, y, d, q⟩).toNat default).t) with q := fwX (rows3 c) ⟨w, h, u, x, y, d, q⟩ / i } := rfl
  rw [t1, t2]
  rw [e1, e2, wrapu8, hcell, Int.emod_eq_of_lt hcol.1 (by omega), wrap64_in (x := colX _ _ _) (by omega)]
  refine ⟨⟨h1, h2, hn⟩, ⟨(good_iff.1 hg).1, (good_iff.1 hg).2.2.1, .inr rfl⟩, ⟨⟨f1, by omega⟩, by simp⟩, by simp, ⟨⟨by omega, by omega, rfl⟩, by rw [h1.2]; omega⟩, fun a ha => ⟨fun hlt => ?_, fun hge => ?_⟩⟩
  ·have hlt := of_decide_eq_true hlt
   obtain ⟨hf, _⟩ := ha
   have a0 : 0 <= a := hf.1
   obtain ⟨r1, r2, r3⟩ := row_get h1 (j := a.toNat) (by omega) ⟨0, []⟩
   rw [r1, r2, r3, wrap64_in (x := a + 1) (by omega)]
   have hstep : (((rows3 c).getD a.toNat default).a == colX (movX ⟨w, h, u, x, y, d, q⟩ (-1)) (movX ⟨w, h, u, x, y, d, q⟩ (-1)).x (movX ⟨w, h, u, x, y, d, q⟩ (-1)).y && ((rows3 c).getD a.toNat default).b == (movX ⟨w, h, u, x, y, d, q⟩ (-1)).q) = false -> ulInv (rows3 c) (colX (movX ⟨w, h, u, x, y, d, q⟩ (-1)) (movX ⟨w, h, u, x, y, d, q⟩ (-1)).x (movX ⟨w, h, u, x, y, d, q⟩ (-1)).y) (movX ⟨w, h, u, x, y, d, q⟩ (-1)).q (a + 1) := fun hb => ⟨fw_step hf (by rw [h1.2]; omega) hb, by rw [h1.2]; omega⟩
   refine ⟨⟨a0, hlt⟩, ⟨by omega, by omega⟩, fun m1 => ⟨fun m2 => ?_, fun m2 => ?_⟩, fun m1 => ?_⟩
   ·have m3 : (((rows3 c).getD a.toNat default).a == colX (movX ⟨w, h, u, x, y, d, q⟩ (-1)) (movX ⟨w, h, u, x, y, d, q⟩ (-1)).x (movX ⟨w, h, u, x, y, d, q⟩ (-1)).y && ((rows3 c).getD a.toNat default).b == (movX ⟨w, h, u, x, y, d, q⟩ (-1)).q) = true := by
     rw [m1, Bool.true_and]
     exact m2
    have hak0 := fw_yes hf (by rw [h1.2]; omega) m3
    have hak : a = fwX (rows3 c) ⟨w, h, u, x, y, d, q⟩ := hak0
    subst hak
    have hdd : (movX ⟨w, h, u, x, y, d, q⟩ (-1)).d = d := rfl
    have hB : undX i (rows3 c) ⟨w, h, u, x, y, d, q⟩ = { pntX { w := (movX ⟨w, h, u, x, y, d, q⟩ (-1)).w, h := (movX ⟨w, h, u, x, y, d, q⟩ (-1)).h, u := (movX ⟨w, h, u, x, y, d, q⟩ (-1)).u, x := (movX ⟨w, h, u, x, y, d, q⟩ (-1)).x, y := (movX ⟨w, h, u, x, y, d, q⟩ (-1)).y, d := (d - qtI ((rows3 c).getD (fwX (rows3 c) ⟨w, h, u, x, y, d, q⟩).toNat default).t) % 4, q := (movX ⟨w, h, u, x, y, d, q⟩ (-1)).q } (movX ⟨w, h, u, x, y, d, q⟩ (-1)).x (movX ⟨w, h, u, x, y, d, q⟩ (-1)).y (fwX (rows3 c) ⟨w, h, u, x, y, d, q⟩ % i) with q := fwX (rows3 c) ⟨w, h, u, x, y, d, q⟩ / i } := by
     rw [hund]
     simp only [trnX, pntX, cIx, Sx.mk.injEq, true_and, and_true]
     rw [hdd]
     omega
    have hq3 : fwX (rows3 c) ⟨w, h, u, x, y, d, q⟩ / i <= fwX (rows3 c) ⟨w, h, u, x, y, d, q⟩ := Int.ediv_le_self _ k0
    have hq0 : 0 <= fwX (rows3 c) ⟨w, h, u, x, y, d, q⟩ / i := Int.ediv_nonneg k0 (by omega)
    have hm := F.md
    rw [show unX (true && true) i (rows3 c) ⟨w, h, u, x, y, d, q⟩ = undX i (rows3 c) ⟨w, h, u, x, y, d, q⟩ from rfl, hB]
    rw [show Int.toNat 0 = 0 from rfl, <- q0, hdd, tmod_emod k0, tdiv_ediv k0]
    rw [wrap64_in (x := fwX (rows3 c) ⟨w, h, u, x, y, d, q⟩ / i) (by omega), wrap64_in (x := d - qtI _) (by omega)]
    refine ⟨⟨trivial, ⟨by omega, by omega⟩, ⟨trivial⟩, ⟨by omega, by omega, by omega, by omega⟩, by simp⟩, ⟨by omega⟩, ⟨hmc, hmh, hm.1, by omega⟩, ⟨by omega⟩, ?_⟩
    exact retG_y1 h1.2.symm h1.1
   ·exact ⟨by simp, hstep (by rw [m1, Bool.true_and]; exact m2), by omega⟩
   ·exact ⟨by simp, hstep (by rw [m1, Bool.false_and]), by omega⟩
  ·have hge := of_decide_eq_false hge
   obtain ⟨hf, _⟩ := ha
   have := fw_done hf (by rw [h1.2]; omega)
   have hk : fwF (rows3 c) (colX (movX ⟨w, h, u, x, y, d, q⟩ (-1)) (movX ⟨w, h, u, x, y, d, q⟩ (-1)).x (movX ⟨w, h, u, x, y, d, q⟩ (-1)).y) (movX ⟨w, h, u, x, y, d, q⟩ (-1)).q 0 = fwX (rows3 c) ⟨w, h, u, x, y, d, q⟩ := rfl
   rw [hk] at this
   omega
end Go.Vi
