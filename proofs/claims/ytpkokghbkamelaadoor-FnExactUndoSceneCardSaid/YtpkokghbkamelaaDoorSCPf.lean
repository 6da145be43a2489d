/- Scenes: what is good. -/
import Derived.Test.YtpkokghbkamelaaDoorSCVc
import Derived.Test.YtpkokghbkamelaaDoorSCSpec
namespace Go.Vi
set_option linter.unusedSimpArgs false
set_option linter.unusedVariables false
theorem cols_start {c : List UInt8} {n : Int} (h : c.length <= 1000) : colsInv c n 0 := ⟨h, by omega, by omega, by simp [colsB]⟩
theorem colsB_take {c : List UInt8} {n : Int} {i : Nat} (h : i < c.length) : colsB (c.take (i + 1)) n = (colsB (c.take i) n && inB (((c.getD i 0).toNat : Int) - 48) 0 (n - 1)) := by
 unfold colsB
 rw [List.take_succ_eq_append_getElem h, List.all_append]
 simp [List.getD_eq_getElem?_getD, List.getElem?_eq_getElem h]
theorem cols_step {c : List UInt8} {n i : Int} (h : colsInv c n i) (hl : i < c.length) (hc : inB (((c.getD i.toNat 0).toNat : Int) - 48) 0 (n - 1) = true) : colsInv c n (i + 1) := by
 obtain ⟨h1, h2, h3, h4⟩ := h
 refine ⟨h1, by omega, by omega, ?_⟩
 rw [show (i + 1).toNat = i.toNat + 1 by omega, colsB_take (by omega), h4, hc]; rfl
theorem cols_bad {c : List UInt8} {n i : Int} (h : colsInv c n i) (hl : i < c.length) (hc : inB (((c.getD i.toNat 0).toNat : Int) - 48) 0 (n - 1) = false) : colsB c n = false := by
 obtain ⟨h1, h2, h3, h4⟩ := h
 have hi : i.toNat < c.length := by omega
 unfold colsB
 rw [List.all_eq_false]
 refine ⟨c[i.toNat], List.getElem_mem hi, ?_⟩
 rw [List.getD_eq_getElem?_getD, List.getElem?_eq_getElem hi] at hc
 simp only [Option.getD_some] at hc
 simp [hc]
theorem cols_done {c : List UInt8} {n i : Int} (h : colsInv c n i) (hl : ¬ i < c.length) : colsB c n = true := by
 obtain ⟨h1, h2, h3, h4⟩ := h
 rwa [List.take_of_length_le (by omega)] at h4
theorem cells_iff {a : Sx} : cellsX a = true ↔ (1 <= a.w /\ a.w <= 9) /\ (1 <= a.h /\ a.h <= 9) /\ (a.u.length : Int) = a.w * a.h := by
 unfold cellsX
 simp only [Bool.and_eq_true, inB_eq, decide_eq_true_eq, and_assoc]
theorem mul_bd {a b : Int} (ha : 1 <= a /\ a <= 9) (hb : 1 <= b /\ b <= 9) : 1 <= a * b /\ a * b <= 81 := by
 obtain ⟨h1, h2⟩ := ha
 have e : a = 1 \/ a = 2 \/ a = 3 \/ a = 4 \/ a = 5 \/ a = 6 \/ a = 7 \/ a = 8 \/ a = 9 := by omega
 rcases e with rfl | rfl | rfl | rfl | rfl | rfl | rfl | rfl | rfl <;> omega
theorem cell_bd {a : Sx} (h : cellsX a = true) {x y : Int} (hc : hasX a x y = true) : 0 <= y * a.w /\ y * a.w <= 81 /\ 0 <= y * a.w + x /\ y * a.w + x < (a.u.length : Int) /\ (0 <= x /\ x <= a.w - 1) /\ (0 <= y /\ y <= a.h - 1) /\ (a.u.length : Int) <= 81 := by
 obtain ⟨h1, h2, hl⟩ := cells_iff.1 h
 unfold hasX at hc
 simp only [Bool.and_eq_true, inB_eq] at hc
 obtain ⟨hx, hy⟩ := hc
 have hm := mul_bd h1 h2
 have a1 : 0 <= y * a.w := Int.mul_nonneg hy.1 (by omega)
 have a2 : y * a.w <= (a.h - 1) * a.w := Int.mul_le_mul_of_nonneg_right hy.2 (by omega)
 have a3 : (a.h - 1) * a.w = a.w * a.h - a.w := by rw [Int.sub_mul, Int.one_mul, Int.mul_comm]
 omega
theorem good_iff {s i : Int} {a : Sx} : goodX s i a = true ↔ cellsX a = true /\ colsB a.u i = true /\ hasX a a.x a.y = true /\ (0 <= a.d /\ a.d <= 3) /\ (0 <= a.q /\ a.q <= s - 1) := by
 unfold goodX
 simp only [Bool.and_eq_true, inB_eq, and_assoc]
theorem col_bd {u : List UInt8} {n : Int} (hc : colsB u n = true) {i : Nat} (hi : i < u.length) : 48 <= ((u.getD i 0).toNat : Int) /\ ((u.getD i 0).toNat : Int) - 48 <= n - 1 := by
 unfold colsB at hc
 rw [List.all_eq_true] at hc
 have := hc _ (List.getElem_mem hi)
 rw [inB_eq] at this
 rw [List.getD_eq_getElem?_getD, List.getElem?_eq_getElem hi]
 simp only [Option.getD_some]
 omega
theorem tab_iff {s i : Int} {l : List Row3} (h : tabB s i l = true) : (1 <= s /\ s <= 4) /\ (1 <= i /\ i <= 4) /\ (l.length : Int) = s * i /\ l.all (rowG s i) = true := by
 unfold tabB at h
 simp only [Bool.and_eq_true, decide_eq_true_eq, inB_eq] at h
 exact ⟨h.1.1.1, h.1.1.2, h.1.2, h.2⟩
theorem row_ix {s i q t : Int} {n : Nat} (hs : 1 <= s /\ s <= 4) (hi : 1 <= i /\ i <= 4) (hn : (n : Int) = s * i) (hq : 0 <= q /\ q <= s - 1) (ht : 0 <= t /\ t <= i - 1) : 0 <= q * i /\ q * i <= 16 /\ 0 <= q * i + t /\ q * i + t < (n : Int) := by
 have a1 : 0 <= q * i := Int.mul_nonneg hq.1 (by omega)
 have a2 : q * i <= (s - 1) * i := Int.mul_le_mul_of_nonneg_right hq.2 (by omega)
 have a3 : (s - 1) * i = s * i - i := by rw [Int.sub_mul, Int.one_mul]
 have a4 : s * i <= 4 * i := Int.mul_le_mul_of_nonneg_right hs.2 (by omega)
 omega
theorem ts_one {t : List UInt8} (h : tsB t = true) : t = [76] \/ t = [82] \/ t = [78] \/ t = [85] := by
 unfold tsB at h
 simp only [Bool.and_eq_true, decide_eq_true_eq] at h
 obtain ⟨h1, h2⟩ := h
 match t, h1 with
 | [c], _ =>
  unfold ruleB signB at h2
  simp only [Bool.and_eq_true, List.all_cons, List.all_nil, Bool.or_eq_true, beq_iff_eq] at h2
  rcases h2.2.1 with ((h | h) | h) | h <;> subst h <;> simp
theorem qt_turn {t : List UInt8} (h : tsB t = true) : qtI t = turnI ((t.getD 0 0).toNat : Int) /\ 0 <= qtI t /\ qtI t <= 3 /\ t.length = 1 := by
 rcases ts_one h with rfl | rfl | rfl | rfl <;> decide
theorem emod_bd (n : Int) {m : Int} (hm : 1 <= m) : 0 <= n % m /\ n % m <= m - 1 := by
 have := Int.emod_nonneg n (b := m) (by omega)
 have := Int.emod_lt_of_pos n (b := m) (by omega)
 omega
theorem has_mov {a : Sx} (hg : cellsX a = true) (k : Int) : hasX (movX a k) (movX a k).x (movX a k).y = true := by
 obtain ⟨h1, h2, _⟩ := cells_iff.1 hg
 unfold hasX movX
 simp only [Bool.and_eq_true, inB_eq]
 exact ⟨emod_bd _ h1.1, emod_bd _ h2.1⟩
theorem szTL_le : ∀ (l : List Row3) (left : Int), 0 <= left -> szTL l left <= left
 | [], left, _ => Int.le_refl _
 | r :: l, left, h => by
  unfold szTL
  cases hd : decide (szI r.t.length left < 0) with
  | true => rw [cond_true]; omega
  | false =>
   rw [cond_false]
   have h1 := of_decide_eq_false hd
   have h2 := szTL_le l (szI r.t.length left) (by omega)
   have h3 : szI r.t.length left <= left := by
    unfold szI
    cases decide (left - (r.t.length : Int) < 0)
    ·rw [cond_false]; omega
    ·rw [cond_true]; omega
   omega
theorem szT_le {l : List Row3} {left : Int} (h : 0 <= left) : -1 <= szT l left /\ szT l left <= left := by
 refine ⟨?_, ?_⟩
 ·rcases Int.lt_or_le (szT l left) 0 with h1 | h1
  ·rw [szT_m1 h1]; omega
  ·omega
 ·unfold szT
  cases hd : decide (left - (l.length : Int) < 0) with
  | true => rw [cond_true]; omega
  | false =>
   rw [cond_false]
   have := szTL_le l (left - l.length) (by have := of_decide_eq_false hd; omega)
   omega
/-! ### the conditions -/
theorem vc_impl_digit (b : Int) (h : 0 <= b /\ b < 256) : VC_impl_digit b (retP (.int .i64 (b - 48))) := by
 unfold VC_impl_digit
 rw [retP_int, wrap64_in (x := b) (by omega), wrap64_in (by omega)]
theorem vc_impl_isWay (a : Int) (_ : True) : VC_impl_isWay a (retP (.bool (inB a 0 3))) := by
 unfold VC_impl_isWay
 rw [retP_bool]
 exact ⟨⟨trivial⟩, rfl⟩
theorem vc_impl_hasCell (wr : List UInt8) (ww wh : Int) (wc : List UInt8) (wx wy wd x y : Int) (h : inB ww 1 9 = true /\ inB wh 1 9 = true) : VC_impl_hasCell wr ww wh wc wx wy wd x y (retP (.bool (inB x 0 (ww - 1) && inB y 0 (wh - 1)))) := by
 obtain ⟨h1, h2⟩ := h
 rw [inB_eq] at h1 h2
 unfold VC_impl_hasCell
 rw [wrap64_in (x := ww - 1) (by omega), wrap64_in (x := wh - 1) (by omega)]
 simp only [retP_bool, retP_lit]
 exact ⟨⟨trivial⟩, fun h => ⟨⟨trivial⟩, by rw [h, Bool.true_and]⟩, fun h => by rw [h, Bool.false_and]⟩
theorem byte_lt (b : UInt8) : (b.toNat : Int) < 256 := by
 have := b.toNat_lt
 omega
theorem vc_impl_areColours (s : List UInt8) (n : Int) (h : -1000 <= n /\ n <= 1000 /\ s.length <= 1000) : VC_impl_areColours s n (retP (.bool (colsB s n))) := by
 unfold VC_impl_areColours
 simp only [at_iff, retP_lit, and_true, true_and, Bool.not_eq_true', Bool.not_eq_false', decide_eq_true_eq, decide_eq_false_iff_not]
 rw [wrap64_in (x := n - 1) (by omega)]
 refine ⟨cols_start h.2.2, fun i hi => ⟨fun hlt => ⟨⟨hi.2.1, hlt⟩, ⟨by omega, byte_lt _⟩, fun hc => (cols_bad hi hlt hc).symm, fun hc => ?_⟩, fun hge => (cols_done hi hge).symm⟩⟩
 rw [wrap64_in (x := i + 1) (by have := hi.2.1; omega)]
 exact ⟨cols_step hi hlt hc, by omega⟩
theorem vc_laws_szScene (left : Int) (s i : Int) (n : Nat) (c : List Sc) (w h : Int) (u : List UInt8) (x y d q : Int) (hp : (0 <= left /\ left <= 1048576) /\ ((n : Int) <= 9223372036854775807 /\ is3 c n /\ ∀ r ∈ rows3 c, (r.t.length : Int) <= 9223372036854775807) /\ (u.length : Int) <= 9223372036854775807) :
  VC_laws_szScene left s i n c w h u x y d q (retG 1 (.int .i64 (szS (rows3 c) u left)) [⟨.recs [.int .i64, .str, .int .i64] c, 139, .arg 3⟩]) := by
 obtain ⟨h1, h2, h3⟩ := hp
 unfold VC_laws_szScene
 have hb := szT_le (l := rows3 c) h1.1
 refine ⟨⟨h1, h2⟩, fun hd => retG_r1i ?_, fun hd => ⟨fun he => retG_r1i ?_, fun he => retG_r1i ?_⟩⟩
 ·unfold szS; rw [hd]; rfl
 all_goals
  have hd' := of_decide_eq_false hd
  unfold szS szI
  rw [hd, cond_false]
  rw [wrap64_in (by omega)] at he
  rw [he]
 ·rfl
 ·rw [wrap64_in (by omega)]; rfl
theorem vc_laws_toScene (s i : Int) (n : Nat) (c : List Sc) (w h : Int) (u : List UInt8) (x y d q : Int) (hp : is3 c n /\ n <= 2000000) : VC_laws_toScene s i n c w h u x y d q (retG 1 (.agg [.int .i64 s, .int .i64 i, .row 1 n, .int .i64 w, .int .i64 h, .str u, .int .i64 x, .int .i64 y, .int .i64 d, .int .i64 q]) [⟨.recs [.int .i64, .str, .int .i64] c, 139, .arg 3⟩, ⟨.recs [.int .i64, .str, .int .i64] c, 96, .rows 3⟩]) := by
 unfold VC_laws_toScene
 refine ⟨⟨hp⟩, ?_⟩
 unfold retG leSel leSelBy autoSel
 simp [pairsL, pairsV, idPairs, pairsIn, selOf, lookN, findSel, selMem, chkB, nodupSel, hasSel, prefSel, leSt, leL, leV, nilToL, V.nilTo, isNilS, isGhost, selL, V.sel, Cells.selN, leMem, leCells, memUnder, underL, V.under]
 try trivial
theorem scene_no {s i : Int} {l : List Row3} {w h : Int} {u : List UInt8} {x y d q : Int} (hn : tabB s i l = true -> goodX s i ⟨w, h, u, x, y, d, q⟩ = true -> False) : false = sceneB s i l w h u x y d q := by
 unfold sceneB
 cases h1 : tabB s i l with
 | false => rfl
 | true =>
  cases h2 : goodX s i ⟨w, h, u, x, y, d, q⟩ with
  | false => rfl
  | true => exact (hn h1 h2).elim
theorem vc_spec_taScene (s i : Int) (n : Nat) (c : List Sc) (w h : Int) (u : List UInt8) (x y d q : Int) (hp : is3 c n /\ n <= 2000000) : VC_spec_taScene s i n c w h u x y d q (retG 1 (.bool (sceneB s i (rows3 c) w h u x y d q)) [⟨.recs [.int .i64, .str, .int .i64] c, 96, .rows 3⟩]) := by
 unfold VC_spec_taScene
 simp only [at_iff, and_true, true_and, Bool.not_eq_true', Bool.not_eq_false', decide_eq_true_eq, decide_eq_false_iff_not, bne_iff_ne, ne_eq, bne_eq_false_iff_eq]
 refine ⟨hp, fun h1 => retG_r1l (scene_no fun a _ => by rw [h1] at a; cases a), fun h1 => ⟨fun h2 => retG_r1l (scene_no fun _ a => ?_), fun h2 => ⟨fun h3 => retG_r1l (scene_no fun _ a => ?_), fun h3 => ?_⟩⟩⟩
 ·have := cells_iff.1 (good_iff.1 a).1
  rw [<- inB_eq] at this
  simp only at this
  rw [h2] at this
  cases this.1
 ·have := (cells_iff.1 (good_iff.1 a).1).2.1
  rw [<- inB_eq] at this
  simp only at this
  rw [h3] at this
  cases this
 have hw := inB_eq.1 h2
 have hh := inB_eq.1 h3
 have hm := mul_bd hw hh
 obtain ⟨⟨s1, s2⟩, ⟨i1, i2⟩, _⟩ := tab_iff h1
 rw [wrap64_in (x := w * h) (by omega), wrap64_in (x := i - 1) (by omega), wrap64_in (x := w - 1) (by omega), wrap64_in (x := h - 1) (by omega), wrap64_in (x := s - 1) (by omega)]
 refine ⟨fun h4 => retG_r1l (scene_no fun _ a => h4 (cells_iff.1 (good_iff.1 a).1).2.2), fun h4 => ?_⟩
 refine ⟨cols_start (by omega), fun a ha => ⟨fun hlt => ?_, fun hge => ?_⟩⟩
 ·have hb := byte_lt (u.getD a.toNat 0)
  rw [wrap64_in (x := ((u.getD a.toNat 0).toNat : Int)) (by omega), wrap64_in (by omega), wrap64_in (x := a + 1) (by have := ha.2.1; omega)]
  refine ⟨⟨ha.2.1, hlt⟩, fun hc => retG_r1l (scene_no fun _ g => ?_), fun hc => ⟨cols_step ha hlt hc, by omega⟩⟩
  have := cols_bad ha hlt hc
  have g2 := (good_iff.1 g).2.1
  rw [this] at g2
  cases g2
 ·have hcol := cols_done ha hge
  have hcel : cellsX ⟨w, h, u, x, y, d, q⟩ = true := cells_iff.2 ⟨hw, hh, h4⟩
  refine ⟨fun e1 => ⟨fun e2 => ⟨fun e3 => retG_r1b ?_, fun e3 => retG_r1l ?_⟩, fun e2 => retG_r1l ?_⟩, fun e1 => retG_r1l ?_⟩ <;> simp [sceneB, goodX, hasX, h1, hcel, hcol, *]
theorem vc_spec_IsScene (s i : Int) (n : Nat) (c : List Sc) (w h : Int) (u : List UInt8) (x y d q : Int) (hp : is3 c n /\ n <= 2000000) : VC_spec_IsScene s i n c w h u x y d q (retG 1 (.bool (sceneB s i (rows3 c) w h u x y d q)) [⟨.recs [.int .i64, .str, .int .i64] c, 96, .rows 3⟩]) := by
 unfold VC_spec_IsScene
 exact ⟨⟨hp⟩, retG_r1b rfl⟩
theorem vc_impl_actorOf (s i : Int) (n : Nat) (c : List Sc) (w h : Int) (u : List UInt8) (x y d q : Int) (hp : is3 c n /\ n <= 2000000) : VC_impl_actorOf s i n c w h u x y d q (retG 1 (.agg [.str [], .int .i64 w, .int .i64 h, .str u, .int .i64 x, .int .i64 y, .int .i64 d, .int .i64 q]) [⟨.recs [.int .i64, .str, .int .i64] c, 96, .rows 3⟩]) := by
 unfold VC_impl_actorOf
 unfold retG leSel leSelBy autoSel
 simp [pairsL, pairsV, idPairs, pairsIn, selOf, lookN, findSel, selMem, chkB, nodupSel, hasSel, prefSel, leSt, leL, leV, nilToL, V.nilTo, isNilS, isGhost, selL, V.sel, Cells.selN, leMem, leCells, memUnder, underL, V.under]
 try trivial
theorem retG_gb {q r : Bool} {c : List Sc} {sh : List Sh} {e f : TypeId} {k g : Kind} {g0 g1 g2 g3 : List UInt8} {J : List Blk} (h : q = r) : retG 2 (.bool r) [⟨.recs sh c, e, k⟩, ⟨.vals [.str g0, .str g1, .str g2, .str g3], f, g⟩] (.bool q) (⟨.recs sh c, e, k⟩ :: ⟨.vals [.str g0, .str g1, .str g2, .str g3], f, g⟩ :: J) := by
 subst h
 unfold retG leSel leSelBy autoSel
 simp [pairsL, pairsV, idPairs, pairsIn, selOf, lookN, selMem, chkB, nodupSel, hasSel, prefSel, leSt, leL, leV, nilToL, V.nilTo, selL, V.sel, Cells.selN, leMem, leCells, memUnder, underL, V.under]
theorem vc_impl_IsScene (s i : Int) (n : Nat) (c : List Sc) (w h : Int) (u : List UInt8) (x y d q : Int) (g0 g1 g2 g3 : List UInt8) (hp : is3 c n /\ n <= 2000000 /\ isSg g0 g1 g2 g3) : VC_impl_IsScene s i n c w h u x y d q g0 g1 g2 g3 (retG 2 (.bool (sceneB s i (rows3 c) w h u x y d q)) [⟨.recs [.int .i64, .str, .int .i64] c, 96, .rows 3⟩, ⟨.vals [.str g0, .str g1, .str g2, .str g3], 9, .gl 0⟩]) := by
 unfold VC_impl_IsScene
 simp only [at_iff, and_true, true_and, Bool.not_eq_true', Bool.not_eq_false', decide_eq_true_eq, decide_eq_false_iff_not, bne_iff_ne, ne_eq, bne_eq_false_iff_eq]
 refine ⟨hp, fun h1 => retG_gl (scene_no fun a _ => by rw [h1] at a; cases a), fun h1 => ⟨fun h2 => retG_gl (scene_no fun _ a => ?_), fun h2 => ?_⟩⟩
 ·have := cells_iff.1 (good_iff.1 a).1
  rw [<- inB_eq, <- inB_eq] at this
  simp only at this
  rw [this.1, this.2.1] at h2
  cases h2
 rw [Bool.and_eq_true] at h2
 have hw := inB_eq.1 h2.1
 have hh := inB_eq.1 h2.2
 have hm := mul_bd hw hh
 obtain ⟨⟨s1, s2⟩, ⟨i1, i2⟩, _⟩ := tab_iff h1
 rw [wrap64_in (x := w * h) (by omega), wrap64_in (x := s - 1) (by omega)]
 refine ⟨fun h4 => retG_gl (scene_no fun _ a => h4 (cells_iff.1 (good_iff.1 a).1).2.2), fun h4 => ?_⟩
 have hcel : cellsX ⟨w, h, u, x, y, d, q⟩ = true := cells_iff.2 ⟨hw, hh, h4⟩
 refine ⟨⟨⟨hp.1, hp.2.1⟩, h2, fun e1 => ⟨fun e2 => ?_, fun e2 => ?_⟩, fun e1 => ?_⟩, ⟨by omega, by omega, by omega⟩, fun e5 => retG_gb ?_, fun e5 => retG_gl ?_⟩
 ·simp [hasX, e1, e2]
 ·simp [e2]
 ·simp [hasX, e1]
 ·simp [sceneB, goodX, h1, hcel, e5]
 ·simp [sceneB, goodX, e5]
end Go.Vi
