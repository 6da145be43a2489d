/- Tables told: the conditions hold. -/
import Derived.Test.YtpkokghbkamelaaDoorTTVc
import Derived.Test.YtpkokghbkamelaaDoorTTSpec
namespace Go.Vi
set_option linter.unusedSimpArgs false
/-! ### marks -/
theorem digF_any : ∀ (f g n : Nat) (l : List UInt8), n <= f -> n <= g -> digF f n l = digF g n l
 | 0, 0, _, _, _, _ => rfl
 | 0, g + 1, n, l, h, _ => by
  have : n = 0 := by omega
  subst this; rfl
 | f + 1, 0, n, l, _, h => by
  have : n = 0 := by omega
  subst this; rfl
 | f + 1, g + 1, n, l, h1, h2 => by
  unfold digF
  by_cases hn : n = 0
  ·rw [decide_eq_true hn]; rfl
  ·rw [decide_eq_false hn]
   exact digF_any f g (n / 10) _ (by omega) (by omega)
theorem digF_step {n : Nat} (h : 0 < n) (l : List UInt8) : digF n n l = digF (n / 10) (n / 10) (UInt8.ofNat (48 + n % 10) :: l) := by
 obtain ⟨m, rfl⟩ : ∃ m, n = m + 1 := ⟨n - 1, by omega⟩
 show (bif decide (m + 1 = 0) then l else digF m ((m + 1) / 10) (UInt8.ofNat (48 + (m + 1) % 10) :: l)) = _
 rw [decide_eq_false (by omega)]
 exact digF_any _ _ _ _ (by omega) (Nat.le_refl _)
theorem u8_in {x : Int} (h : 0 <= x /\ x <= 255) : IntKind.wrap .u8 x = x := IntWalk.u8_in _ (by omega)
theorem vc_laws_markText (k : Int) (h : 0 <= k /\ k <= 100000000) : VC_laws_markText k (retP (.str (mtx k))) := by
 unfold VC_laws_markText
 simp only [at_iff, true_and, and_true]
 refine ⟨fun h0 => ?_, fun h0 => ⟨⟨h.1, by simp; omega, rfl⟩, fun q hq => ⟨fun hc => ?_, fun hc => ?_⟩⟩⟩
 ·unfold mtx; rw [h0]; exact (retP_str _ _).2 rfl
 ·have hc := of_decide_eq_true hc
  obtain ⟨q, l⟩ := q
  obtain ⟨g0, g1, g2⟩ := hq
  dsimp only at *
  obtain ⟨m, rfl⟩ : ∃ m : Nat, q = m := ⟨q.toNat, by omega⟩
  have e1 : Int.tmod (m : Int) 10 = ((m % 10 : Nat) : Int) := rfl
  have e2 : Int.tdiv (m : Int) 10 = ((m / 10 : Nat) : Int) := rfl
  rw [e1, e2, wrap64_in (x := 48 + ((m % 10 : Nat) : Int)) (by omega), wrap64_in (x := ((m / 10 : Nat) : Int)) (by omega), u8_in (by omega)]
  have e3 : (48 + ((m % 10 : Nat) : Int)).toNat = 48 + m % 10 := by omega
  simp only [List.map_cons, List.map_nil, e3, List.take_succ_cons, List.take_zero, List.cons_append, List.nil_append, List.length_cons, List.length_nil, Int.toNat_natCast] at *
  refine ⟨by decide, fun x hx => ?_, by omega, by omega, by decide, ⟨by omega, ?_, ?_⟩, by omega⟩
  ·rw [List.mem_singleton] at hx; omega
  ·simp only [List.length_cons]; omega
  ·show digF (m / 10) (m / 10) _ = _
   rw [<- digF_step (by omega)]
   exact g2
 ·have hc := of_decide_eq_false hc
  have h0 := of_decide_eq_false h0
  obtain ⟨q, l⟩ := q
  obtain ⟨g0, g1, g2⟩ := hq
  dsimp only at *
  have : q = 0 := by omega
  subst this
  have g2 : l = digF k.toNat k.toNat [] := g2
  refine ⟨by simp; omega, ?_⟩
  unfold mtx
  rw [decide_eq_false (by omega), g2]
  exact (retP_str _ _).2 rfl
theorem mkR_len (k : Int) (n : Nat) : (mkR k n).length = n := by unfold mkR; rw [List.length_map, List.length_range]
theorem mkR_succ (k : Int) (n : Nat) : mkR k (n + 1) = mkR k n ++ [⟨k + (3 * n : Nat), mtx (k + (3 * n : Nat) + 1), k + (3 * n : Nat) + 2⟩] := by
 unfold mkR; rw [List.range_succ, List.map_append]; rfl
theorem mkR_get {k : Int} {n j : Nat} (h : j < n) : (mkR k n).getD j default = ⟨k + (3 * j : Nat), mtx (k + (3 * j : Nat) + 1), k + (3 * j : Nat) + 2⟩ := by
 unfold mkR
 rw [List.getD_eq_getElem?_getD, List.getElem?_map, List.getElem?_range h]
 rfl
theorem mkRow_len {l : List Row3} {k : Int} {j : Nat} (h : j <= l.length) : (mkRow l k j).length = l.length := by
 unfold mkRow; rw [List.length_append, mkR_len, List.length_drop]; omega
theorem mkRow_set {l : List Row3} {k : Int} {j : Nat} (h : j < l.length) :
  List.set (List.set (List.set (flat3 (mkRow l k j)) (j * 3 + 0) ⟨k + (3 * j : Nat), []⟩) (j * 3 + 1) ⟨0, mtx (k + (3 * j : Nat) + 1)⟩) (j * 3 + 2) ⟨k + (3 * j : Nat) + 2, []⟩ = flat3 (mkRow l k (j + 1)) := by
 unfold mkRow
 have hl : (flat3 (mkR k j)).length = j * 3 := by rw [flat3_length, mkR_len]
 rw [mkR_succ, flat3_append, flat3_append, flat3_append, drop_cons h default]
 generalize flat3 (mkR k j) = A at hl
 simp only [flat3]
 rw [List.set_append_right _ _ (by omega), hl, show j * 3 + 0 - j * 3 = 0 by omega, List.set_cons_zero, List.set_append_right _ _ (by omega), hl, show j * 3 + 1 - j * 3 = 1 by omega, List.set_append_right _ _ (by omega), hl, show j * 3 + 2 - j * 3 = 2 by omega]
 simp
theorem retG_r1m {q r : Int} {c d : List Sc} {sh : List Sh} {e : TypeId} {k : Kind} {J : List Blk} (h : q = r) (hd : d = c) : retG 1 (.int .i64 r) [⟨.recs sh c, e, k⟩] (.int .i64 q) (⟨.recs sh d, e, k⟩ :: J) := by
 subst h; subst hd
 unfold retG leSel leSelBy autoSel
 simp [pairsL, pairsV, idPairs, pairsIn, selOf, lookN, selMem, chkB, nodupSel, hasSel, prefSel, leSt, leL, leV, nilToL, V.nilTo, selL, V.sel, Cells.selN, leMem, leCells, memUnder, underL, V.under]
theorem sh3_at (j : Nat) : shAt [Sh.int .i64, Sh.str, Sh.int .i64] (j * 3 + 0) = Sh.int .i64 /\ shAt [Sh.int .i64, Sh.str, Sh.int .i64] (j * 3 + 1) = Sh.str /\ shAt [Sh.int .i64, Sh.str, Sh.int .i64] (j * 3 + 2) = Sh.int .i64 := by
 refine ⟨?_, ?_, ?_⟩
 ·show ([Sh.int .i64, Sh.str, Sh.int .i64] : List Sh).getD ((j * 3 + 0) % 3) .str = _
  rw [show (j * 3 + 0) % 3 = 0 by omega]; rfl
 ·show ([Sh.int .i64, Sh.str, Sh.int .i64] : List Sh).getD ((j * 3 + 1) % 3) .str = _
  rw [show (j * 3 + 1) % 3 = 1 by omega]; rfl
 ·show ([Sh.int .i64, Sh.str, Sh.int .i64] : List Sh).getD ((j * 3 + 2) % 3) .str = _
  rw [show (j * 3 + 2) % 3 = 2 by omega]; rfl
theorem vc_laws_markRowS (k : Int) (n : Nat) (c : List Sc) (h : is3 c n /\ n <= 2000000 /\ 0 <= k /\ k <= 1000000) : VC_laws_markRowS k n c (retG 1 (.int .i64 (k + (3 * n : Nat))) [⟨.recs [.int .i64, .str, .int .i64] (flat3 (mkR k n)), 96, .rows 3⟩]) := by
 obtain ⟨⟨hc, hn⟩, h2, h3, h4⟩ := h
 unfold VC_laws_markRowS
 generalize rows3 c = l at hc hn ⊢
 subst hc; subst hn
 simp only [at_iff, true_and, and_true]
 refine ⟨⟨by omega, rfl⟩, ⟨Int.le_refl _, by omega⟩, fun j hj => ⟨fun hd => ?_, fun hd => ?_⟩⟩
 ·have hd := of_decide_eq_true hd
  obtain ⟨g1, g2⟩ := hj
  obtain ⟨m, rfl⟩ : ∃ m : Nat, j = m := ⟨j.toNat, by omega⟩
  have hm : m < l.length := by omega
  have e0 : k + 3 * (m : Int) = k + (3 * m : Nat) := by omega
  have e1 : IntKind.wrap .i64 (k + (3 * m : Nat) + 1) = k + (3 * m : Nat) + 1 := wrap64_in (by omega)
  have e2 : IntKind.wrap .i64 (k + (3 * m : Nat) + 1 + 1) = k + (3 * m : Nat) + 2 := by rw [wrap64_in (by omega)]; omega
  have e3 : IntKind.wrap .i64 (k + (3 * m : Nat) + 2 + 1) = k + 3 * ((m : Int) + 1) := by rw [wrap64_in (by omega)]; omega
  have e4 : IntKind.wrap .i64 ((m : Int) + 1) = (m : Int) + 1 := wrap64_in (by omega)
  have hl : (flat3 (mkRow l k m)).length = l.length * 3 := by rw [flat3_length, mkRow_len (by omega)]
  obtain ⟨s0, s1, s2⟩ := sh3_at m
  have hset := mkRow_set (k := k) hm
  simp only [Int.toNat_natCast, e0, e1, e2, e3, e4, show ((m : Int) + 1).toNat = m + 1 by omega, List.length_set, hl, hset]
  refine ⟨⟨by omega, hd⟩, ⟨by omega, s0⟩, ⟨by omega, by omega⟩, ⟨by omega, hd⟩, ⟨by omega, s1⟩, ⟨by omega, hd⟩, ⟨by omega, s2⟩, ⟨trivial, trivial⟩, ⟨by omega, by omega⟩, by omega⟩
 ·have hd := of_decide_eq_false hd
  obtain ⟨g1, g2⟩ := hj
  refine retG_r1m (by omega) ?_
  rw [show j.toNat = l.length by omega]
  unfold mkRow
  rw [List.drop_length, List.append_nil]
theorem vc_laws_markTable (k s i : Int) (n : Nat) (c : List Sc) (h : is3 c n /\ n <= 2000000 /\ 0 <= k /\ k <= 1000000) : VC_laws_markTable k s i n c (retG 1 (.int .i64 (k + (3 * n : Nat))) [⟨.recs [.int .i64, .str, .int .i64] (flat3 (mkR k n)), 96, .rows 3⟩]) :=
 ⟨⟨h⟩, retG_r1i rfl⟩
theorem vc_laws_heldRowS (k : Int) (n : Nat) (c : List Sc) (h : is3 c n /\ n <= 2000000 /\ 0 <= k /\ k <= 1000000) : VC_laws_heldRowS k n c (retG 1 (.int .i64 (bif decide (rows3 c = mkR k n) then k + (3 * n : Nat) else -1)) [⟨.recs [.int .i64, .str, .int .i64] c, 96, .rows 3⟩]) := by
 obtain ⟨⟨hc, hn⟩, h2, h3, h4⟩ := h
 unfold VC_laws_heldRowS
 generalize rows3 c = l at hc hn ⊢
 subst hc; subst hn
 simp only [at_iff, true_and, and_true]
 refine ⟨by omega, ⟨⟨Int.le_refl _, by omega⟩, rfl⟩, fun j hj => ⟨fun hd => ?_, fun hd => ?_⟩⟩
 ·have hd := of_decide_eq_true hd
  obtain ⟨⟨g1, g2⟩, g3⟩ := hj
  obtain ⟨m, rfl⟩ : ∃ m : Nat, j = m := ⟨j.toNat, by omega⟩
  have hm : m < l.length := by omega
  have e0 : k + 3 * (m : Int) = k + (3 * m : Nat) := by omega
  have e1 : IntKind.wrap .i64 (k + (3 * m : Nat) + 1) = k + (3 * m : Nat) + 1 := wrap64_in (by omega)
  have e2 : IntKind.wrap .i64 (k + (3 * m : Nat) + 1 + 1) = k + (3 * m : Nat) + 2 := by rw [wrap64_in (by omega)]; omega
  have e3 : IntKind.wrap .i64 (k + (3 * m : Nat) + 2 + 1) = k + 3 * ((m : Int) + 1) := by rw [wrap64_in (by omega)]; omega
  have e4 : IntKind.wrap .i64 ((m : Int) + 1) = (m : Int) + 1 := wrap64_in (by omega)
  have hl : (flat3 l).length = l.length * 3 := flat3_length l
  obtain ⟨s0, s1, s2⟩ := sh3_at m
  obtain ⟨f0, f1, f2⟩ := flat3_get l m ⟨0, []⟩ hm
  have no : l.getD m default ≠ ⟨k + (3 * m : Nat), mtx (k + (3 * m : Nat) + 1), k + (3 * m : Nat) + 2⟩ -> decide (l = mkR k l.length) = false := fun hne => decide_eq_false fun he => hne (by
   have := mkR_get (k := k) hm
   rw [<- he] at this
   exact this)
  rw [Int.toNat_natCast] at g3
  simp only [Int.toNat_natCast, e0, e1, e2, e3, e4, hl, show (flat3 l).getD (m * 3 + 0) ⟨0, []⟩ = _ from f0, f1, show (flat3 l).getD (m * 3 + 2) ⟨0, []⟩ = _ from f2]
  refine ⟨⟨by omega, hd⟩, ⟨by omega, s0⟩, fun t0 => retG_r1i ?_, fun t0 => ⟨⟨by omega, hd⟩, ⟨by omega, s1⟩, ⟨by omega, by omega⟩, fun t1 => retG_r1i ?_, fun t1 => ⟨⟨by omega, hd⟩, ⟨by omega, s2⟩, fun t2 => retG_r1i ?_, fun t2 => ⟨trivial, ⟨⟨by omega, by omega⟩, ?_⟩, by omega⟩⟩⟩⟩
  ·rw [no fun he => by rw [he] at t0; simp at t0]; rfl
  ·rw [no fun he => by rw [he] at t1; simp at t1]; rfl
  ·rw [no fun he => by rw [he] at t2; simp at t2]; rfl
  ·rw [show ((m : Int) + 1).toNat = m + 1 by omega, take_snoc hm default, g3, mkR_succ]
   simp only [bne_eq_false_iff_eq, Bool.not_eq_false', beq_iff_eq] at t0 t1 t2
   have hr : l.getD m default = ⟨(l.getD m default).a, (l.getD m default).t, (l.getD m default).b⟩ := rfl
   congr 2
   exact hr.trans (by rw [t0, t1, t2])
 ·have hd := of_decide_eq_false hd
  obtain ⟨⟨g1, g2⟩, g3⟩ := hj
  rw [show j.toNat = l.length by omega, List.take_length] at g3
  refine retG_r1i ?_
  rw [decide_eq_true g3]
  show _ = k + ((3 * l.length : Nat) : Int)
  omega
theorem vc_laws_heldTable (k s i : Int) (n : Nat) (c : List Sc) (h : is3 c n /\ n <= 2000000 /\ 0 <= k /\ k <= 1000000) : VC_laws_heldTable k s i n c (retG 1 (.int .i64 (bif decide (rows3 c = mkR k n) then k + (3 * n : Nat) else -1)) [⟨.recs [.int .i64, .str, .int .i64] c, 96, .rows 3⟩]) := by
 unfold VC_laws_heldTable
 refine ⟨⟨h⟩, fun h1 => retG_r1i ?_, fun h1 => retG_r1i rfl⟩
 have h1 := of_decide_eq_true h1
 cases hb : decide (rows3 c = mkR k n) with
 | false => rfl
 | true =>
  rw [hb] at h1
  have h1 : k + ((3 * n : Nat) : Int) < 0 := h1
  omega
/-! ### copies -/
theorem retG_cl {c d : List Sc} {sh : List Sh} {e : TypeId} {k : Kind} {n m : Nat} {b0 : Blk} (hd : d = c) (hm : m = n) : retG 1 (.row 1 n) [⟨.recs sh c, e, k⟩, ⟨.recs sh c, e, .rows 3⟩] (.row 2 m) [⟨.recs sh c, e, k⟩, b0, ⟨.recs sh d, e, .rows 3⟩] := by
 subst hd; subst hm
 unfold retG leSel leSelBy autoSel
 simp [pairsL, pairsV, idPairs, pairsIn, selOf, lookN, findSel, selMem, chkB, nodupSel, hasSel, prefSel, leSt, leL, leV, nilToL, V.nilTo, isNilS, isGhost, selL, V.sel, Cells.selN, leMem, leCells, memUnder, underL, V.under]
 try trivial
theorem retG_ct {s i : Int} {c : List Sc} {sh : List Sh} {e : TypeId} {n : Nat} {b0 b1 : Blk} : retG 1 (.agg [.int .i64 s, .int .i64 i, .row 1 n]) [⟨.recs sh c, e, .rows 3⟩, ⟨.recs sh c, e, .rows 3⟩] (.agg [.int .i64 s, .int .i64 i, .row 3 n]) [⟨.recs sh c, e, .rows 3⟩, b0, b1, ⟨.recs sh c, e, .rows 3⟩] := by
 unfold retG leSel leSelBy autoSel
 simp [pairsL, pairsV, idPairs, pairsIn, selOf, lookN, findSel, selMem, chkB, nodupSel, hasSel, prefSel, leSt, leL, leV, nilToL, V.nilTo, isNilS, isGhost, selL, V.sel, Cells.selN, leMem, leCells, memUnder, underL, V.under]
 try trivial
theorem is3_len {c : List Sc} {n : Nat} (h : is3 c n) : c.length = n * 3 := by
 obtain ⟨h1, h2⟩ := h
 rw [h1, flat3_length, h2]
theorem vc_impl_Row (n : Nat) (c : List Sc) (h : is3 c n /\ n <= 2000000 /\ 1 <= n) : VC_impl_Row n c (retG 1 (.row 1 n) [⟨.recs [.int .i64, .str, .int .i64] c, 96, .rows 3⟩, ⟨.recs [.int .i64, .str, .int .i64] c, 96, .rows 3⟩]) := by
 unfold VC_impl_Row
 have hl := is3_len h.1
 simp only [at_iff, true_and, and_true]
 refine ⟨by omega, ⟨⟨by simp, by omega⟩, by simp [posM, rowKind], by omega⟩, retG_cl ?_ (by omega)⟩
 rw [List.nil_append, List.take_of_length_le (by omega)]
theorem vc_impl_copied (s i : Int) (n : Nat) (c : List Sc) (h : is3 c n /\ n <= 2000000 /\ 1 <= n) : VC_impl_copied s i n c (retG 1 (.agg [.int .i64 s, .int .i64 i, .row 1 n]) [⟨.recs [.int .i64, .str, .int .i64] c, 96, .rows 3⟩, ⟨.recs [.int .i64, .str, .int .i64] c, 96, .rows 3⟩]) := by
 unfold VC_impl_copied
 exact ⟨⟨h⟩, retG_ct⟩
/-! ### tables mirrored -/
theorem tab_bd {s i : Int} {l : List Row3} (h : tabB s i l = true) : 1 <= l.length /\ l.length <= 16 /\ ∀ r ∈ l, r.t.length = 1 := by
 unfold tabB at h
 simp only [Bool.and_eq_true, decide_eq_true_eq] at h
 obtain ⟨⟨⟨h1, h2⟩, h3⟩, h4⟩ := h
 have hp := inB_eq.1 h1
 have hq := inB_eq.1 h2
 have h16 := si_bd h1 h2
 have hge : 1 <= s * i := Int.le_trans (show (1 : Int) <= 1 * 1 by omega) (Int.mul_le_mul hp.1 hq.1 (by omega) (by omega))
 refine ⟨by omega, by omega, fun r hr => ?_⟩
 have h5 := List.all_eq_true.1 h4 r hr
 unfold rowG tsB at h5
 simp only [Bool.and_eq_true, decide_eq_true_eq] at h5
 exact h5.1.2.1
theorem is3_flat (l : List Row3) : is3 (flat3 l) l.length := ⟨by rw [rows3_flat], by rw [rows3_flat]⟩
end Go.Vi
