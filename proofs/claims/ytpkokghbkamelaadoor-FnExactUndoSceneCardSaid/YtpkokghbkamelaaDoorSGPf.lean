/- Steps of scenes: the conditions hold. -/
import Derived.Test.YtpkokghbkamelaaDoorSGVc
import Derived.Test.YtpkokghbkamelaaDoorSGSpec
namespace Go.Vi
set_option linter.unusedSimpArgs false
set_option linter.unusedVariables false
theorem tmod_emod {a b : Int} (ha : 0 <= a) : Int.tmod a b = a % b := Int.tmod_eq_emod_of_nonneg ha
theorem tmod_emod_self (n m : Int) : Int.tmod n m % m = n % m := by
 rw [Int.tmod_def, Int.sub_mul_emod_self_left]
theorem tmod_bd {n m : Int} (hm : 1 <= m) : -m < Int.tmod n m /\ Int.tmod n m < m := by
 rcases Int.le_total 0 n with h | h
 ·rw [tmod_emod h]
  have := Int.emod_nonneg n (b := m) (by omega)
  have := Int.emod_lt_of_pos n (b := m) (by omega)
  omega
 ·have e : Int.tmod n m = - Int.tmod (-n) m := by rw [Int.neg_tmod, Int.neg_neg]
  rw [e, tmod_emod (by omega)]
  have := Int.emod_nonneg (-n) (b := m) (by omega)
  have := Int.emod_lt_of_pos (-n) (b := m) (by omega)
  omega
theorem vc_spec_l1Mod (n m : Int) (h : 1 <= m /\ m <= 1000 /\ -1000000 <= n /\ n <= 1000000) : VC_spec_l1Mod n m (retP (.int .i64 (n % m))) := by
 unfold VC_spec_l1Mod
 have hb := tmod_bd (n := n) h.1
 refine ⟨⟨by omega⟩, ⟨by omega⟩, ?_⟩
 rw [retP_int, wrap64_in (by omega), tmod_emod (by omega), Int.add_emod_right, tmod_emod_self]
theorem vc_spec_woTurn (b : Int) (_ : True) : VC_spec_woTurn b (retP (.int .i64 (turnI b))) := by
 unfold VC_spec_woTurn turnI
 refine ⟨fun h => ?_, fun h => ⟨fun h1 => ?_, fun h1 => ⟨fun h2 => ?_, fun h2 => ?_⟩⟩⟩ <;> simp only [*, cond_true, cond_false, retP_int]
theorem vc_impl_direction (d : Int) (_ : True) : VC_impl_direction d (retP (.tup [.int .i64 (dirX d), .int .i64 (dirY d)])) := by
 unfold VC_impl_direction dirX dirY
 refine ⟨fun h => ?_, fun h => ⟨fun h1 => ?_, fun h1 => ⟨fun h2 => ?_, fun h2 => ?_⟩⟩⟩ <;> (simp only [*, cond_true, cond_false]; simp [retP, leV, leL, chkB, V.under, underL])
theorem ix_facts {a : Sx} {x y : Int} (hg : cellsX a = true) (hh : hasX a x y = true) :
  IntKind.wrap .i64 (y * a.w) = y * a.w /\ IntKind.wrap .i64 (y * a.w + x) = y * a.w + x /\ IntKind.wrap .i64 (y * a.w + x + 1) = y * a.w + x + 1 /\ 0 <= y * a.w + x /\ y * a.w + x + 1 <= (a.u.length : Int) /\ a.u.length <= 81 /\ (y * a.w + x + 1).toNat = (y * a.w + x).toNat + 1 := by
 have hc := cell_bd hg hh
 refine ⟨wrap64_in (by omega), wrap64_in (by omega), wrap64_in (by omega), by omega, by omega, by omega, by omega⟩
theorem vc_impl_board_colour (wr : List UInt8) (ww wh : Int) (wc : List UInt8) (wx wy wd x y : Int) (hp : cellsX ⟨ww, wh, wc, wx, wy, wd, 0⟩ = true /\ hasX ⟨ww, wh, wc, wx, wy, wd, 0⟩ x y = true) : VC_impl_board_colour wr ww wh wc wx wy wd x y (retP (.int .i64 (colX ⟨ww, wh, wc, wx, wy, wd, 0⟩ x y))) := by
 obtain ⟨e1, e2, e3, f1, f2, f5, f6⟩ := ix_facts hp.1 hp.2
 simp only at e1 e2 e3 f1 f2 f5 f6
 unfold VC_impl_board_colour
 rw [e1, e2]
 exact ⟨⟨by omega, by omega⟩, ⟨by omega, byte_lt _⟩, by rw [retP_int]; rfl⟩
theorem vc_impl_board_painted (wr : List UInt8) (ww wh : Int) (wc : List UInt8) (wx wy wd x y k : Int) (hp : cellsX ⟨ww, wh, wc, wx, wy, wd, 0⟩ = true /\ hasX ⟨ww, wh, wc, wx, wy, wd, 0⟩ x y = true /\ 0 <= k /\ k <= 9) : VC_impl_board_painted wr ww wh wc wx wy wd x y k (retP (.agg [.str wr, .int .i64 (pntX ⟨ww, wh, wc, wx, wy, wd, 0⟩ x y k).w, .int .i64 (pntX ⟨ww, wh, wc, wx, wy, wd, 0⟩ x y k).h, .str (pntX ⟨ww, wh, wc, wx, wy, wd, 0⟩ x y k).u, .int .i64 (pntX ⟨ww, wh, wc, wx, wy, wd, 0⟩ x y k).x, .int .i64 (pntX ⟨ww, wh, wc, wx, wy, wd, 0⟩ x y k).y, .int .i64 (pntX ⟨ww, wh, wc, wx, wy, wd, 0⟩ x y k).d])) := by
 obtain ⟨hg, hh, hk⟩ := hp
 obtain ⟨e1, e2, e3, f1, f2, f5, f6⟩ := ix_facts hg hh
 simp only at e1 e2 e3 f1 f2 f5 f6
 unfold VC_impl_board_painted
 rw [e1, e2, e3, f6]
 simp only [at_iff, List.length_append, num1_len, List.length_take, List.length_drop, true_and]
 refine ⟨⟨by omega, by omega⟩, ⟨by omega, by omega⟩, by omega, ⟨by omega, by omega⟩, by omega, ?_⟩
 simp [pntX, cIx, retP, leV, leL, chkB, V.under, underL]
theorem vc_impl_board_turned (wr : List UInt8) (ww wh : Int) (wc : List UInt8) (wx wy wd q : Int) (hp : 0 <= wd /\ wd <= 3 /\ 0 <= q /\ q <= 4) : VC_impl_board_turned wr ww wh wc wx wy wd q (retP (.agg [.str wr, .int .i64 (trnX ⟨ww, wh, wc, wx, wy, wd, 0⟩ q).w, .int .i64 (trnX ⟨ww, wh, wc, wx, wy, wd, 0⟩ q).h, .str (trnX ⟨ww, wh, wc, wx, wy, wd, 0⟩ q).u, .int .i64 (trnX ⟨ww, wh, wc, wx, wy, wd, 0⟩ q).x, .int .i64 (trnX ⟨ww, wh, wc, wx, wy, wd, 0⟩ q).y, .int .i64 (trnX ⟨ww, wh, wc, wx, wy, wd, 0⟩ q).d])) := by
 unfold VC_impl_board_turned
 rw [wrap64_in (by omega), tmod_emod (by omega)]
 simp [trnX, retP, leV, leL, chkB, V.under, underL, at_iff]
theorem dir_bd (d : Int) : (-1 <= dirX d /\ dirX d <= 1) /\ (-1 <= dirY d /\ dirY d <= 1) := by
 unfold dirX dirY
 cases d == 0 <;> cases d == 1 <;> cases d == 2 <;> simp
theorem kdir {k e : Int} (hk : k = 1 \/ k = -1) (he : -1 <= e /\ e <= 1) : -1 <= k * e /\ k * e <= 1 := by
 rcases hk with rfl | rfl <;> omega
theorem go_one {x m t : Int} (h : 0 <= x /\ x <= m - 1) (ht : -1 <= t /\ t <= 1) (hm : 1 <= m /\ m <= 9) : Int.tmod (IntKind.wrap .i64 (IntKind.wrap .i64 (x + IntKind.wrap .i64 t) + m)) m = (x + t) % m := by
 rw [wrap64_in (x := t) (by omega), wrap64_in (x := x + t) (by omega), wrap64_in (by omega), tmod_emod (by omega), Int.add_emod_right]
theorem vc_impl_board_moved (wr : List UInt8) (ww wh : Int) (wc : List UInt8) (wx wy wd k : Int) (hp : cellsX ⟨ww, wh, wc, wx, wy, wd, 0⟩ = true /\ hasX ⟨ww, wh, wc, wx, wy, wd, 0⟩ wx wy = true /\ (k = 1 \/ k = -1)) : VC_impl_board_moved wr ww wh wc wx wy wd k (retP (.agg [.str wr, .int .i64 (movX ⟨ww, wh, wc, wx, wy, wd, 0⟩ k).w, .int .i64 (movX ⟨ww, wh, wc, wx, wy, wd, 0⟩ k).h, .str (movX ⟨ww, wh, wc, wx, wy, wd, 0⟩ k).u, .int .i64 (movX ⟨ww, wh, wc, wx, wy, wd, 0⟩ k).x, .int .i64 (movX ⟨ww, wh, wc, wx, wy, wd, 0⟩ k).y, .int .i64 (movX ⟨ww, wh, wc, wx, wy, wd, 0⟩ k).d])) := by
 obtain ⟨hg, hh, hk⟩ := hp
 obtain ⟨h1, h2, _⟩ := cells_iff.1 hg
 obtain ⟨_, _, _, _, h3, h4, _⟩ := cell_bd hg hh
 simp only at h1 h2 h3 h4
 obtain ⟨d1, d2⟩ := dir_bd wd
 unfold VC_impl_board_moved
 rw [go_one h3 (kdir hk d1) h1, go_one h4 (kdir hk d2) h2]
 refine ⟨⟨trivial⟩, ⟨by omega⟩, ⟨by omega⟩, ?_⟩
 simp [movX, retP, leV, leL, chkB, V.under, underL]
theorem retG_bx {s i w h x y d q w' h' x' y' d' q' : Int} {n : Nat} {c : List Sc} {u u' : List UInt8} {e f : TypeId} {sh : List Sh} (hw : w = w') (hh : h = h') (hu : u = u') (hx : x = x') (hy : y = y') (hd : d = d') (hq : q = q') :
  retG 2 (.tup []) [⟨.vals [.int .i64 s, .int .i64 i, .row 1 n, .int .i64 w', .int .i64 h', .str u', .int .i64 x', .int .i64 y', .int .i64 d', .int .i64 q'], e, .box⟩, ⟨.recs sh c, f, .rows 3⟩]
   (.tup []) [⟨.vals [.int .i64 s, .int .i64 i, .row 1 n, .int .i64 w, .int .i64 h, .str u, .int .i64 x, .int .i64 y, .int .i64 d, .int .i64 q], e, .box⟩, ⟨.recs sh c, f, .rows 3⟩] := by
 subst hw; subst hh; subst hu; subst hx; subst hy; subst hd; subst hq
 unfold retG leSel leSelBy autoSel
 simp [pairsL, pairsV, pairsIn, idPairs, selOf, lookN, findSel, selMem, chkB, nodupSel, hasSel, prefSel, leSt, leL, leV, nilToL, V.nilTo, isNilS, isGhost, selL, V.sel, Cells.selN, leMem, leCells, memUnder, underL, V.under]
 try trivial
theorem vc_spec_taGo (k : Int) (s i : Int) (n : Nat) (c : List Sc) (w h : Int) (u : List UInt8) (x y d q : Int) (hp : cellsX ⟨w, h, u, x, y, d, q⟩ = true /\ hasX ⟨w, h, u, x, y, d, q⟩ x y = true /\ (k = 1 \/ k = -1)) : VC_spec_taGo k s i n c w h u x y d q (retG 2 (.tup []) [⟨.vals [.int .i64 s, .int .i64 i, .row 1 n, .int .i64 (movX ⟨w, h, u, x, y, d, q⟩ k).w, .int .i64 (movX ⟨w, h, u, x, y, d, q⟩ k).h, .str (movX ⟨w, h, u, x, y, d, q⟩ k).u, .int .i64 (movX ⟨w, h, u, x, y, d, q⟩ k).x, .int .i64 (movX ⟨w, h, u, x, y, d, q⟩ k).y, .int .i64 (movX ⟨w, h, u, x, y, d, q⟩ k).d, .int .i64 (movX ⟨w, h, u, x, y, d, q⟩ k).q], 33, .box⟩, ⟨.recs [.int .i64, .str, .int .i64] c, 96, .rows 3⟩]) := by
 obtain ⟨hg, hh, hk⟩ := hp
 obtain ⟨h1, h2, _⟩ := cells_iff.1 hg
 obtain ⟨_, _, _, _, h3, h4, _⟩ := cell_bd hg hh
 simp only at h1 h2 h3 h4
 have hkb : -1 <= k /\ k <= 1 := by omega
 have ex : x % w = x := Int.emod_eq_of_lt h3.1 (by omega)
 have ey : y % h = y := Int.emod_eq_of_lt h4.1 (by omega)
 unfold VC_spec_taGo
 rw [wrap64_in (x := y - k) (by omega), wrap64_in (x := x + k) (by omega), wrap64_in (x := y + k) (by omega), wrap64_in (x := x - k) (by omega)]
 refine ⟨fun c0 => ⟨trivial, ⟨by omega⟩, ?_⟩, fun c0 => ⟨fun c1 => ⟨trivial, ⟨by omega⟩, ?_⟩, fun c1 => ⟨fun c2 => ⟨trivial, ⟨by omega⟩, ?_⟩, fun c2 => ⟨trivial, ⟨by omega⟩, ?_⟩⟩⟩⟩ <;> refine retG_bx rfl rfl rfl ?_ ?_ rfl rfl
 ·simp [movX, dirX, c0, ex]
 ·simp [movX, dirY, c0, Int.sub_eq_add_neg]
 ·simp [movX, dirX, c0, c1]
 ·simp [movX, dirY, c0, c1, ey]
 ·simp [movX, dirX, c0, c1, c2, ex]
 ·simp [movX, dirY, c0, c1, c2]
 ·simp [movX, dirX, c0, c1, c2, Int.sub_eq_add_neg]
 ·simp [movX, dirY, c0, c1, c2, ey]
theorem wrapu8 (x : Int) : IntKind.wrap .u8 x = x % 256 := by
 unfold IntKind.wrap IntKind.signed IntKind.bits
 simp
theorem retG_bi {r r' s i w h x y d q : Int} {n : Nat} {c : List Sc} {u u' : List UInt8} {e f : TypeId} {sh : List Sh} (hr : r = r') (hu : u = u') :
  retG 2 (.int .i64 r') [⟨.vals [.int .i64 s, .int .i64 i, .row 1 n, .int .i64 w, .int .i64 h, .str u', .int .i64 x, .int .i64 y, .int .i64 d, .int .i64 q], e, .box⟩, ⟨.recs sh c, f, .rows 3⟩]
   (.int .i64 r) [⟨.vals [.int .i64 s, .int .i64 i, .row 1 n, .int .i64 w, .int .i64 h, .str u, .int .i64 x, .int .i64 y, .int .i64 d, .int .i64 q], e, .box⟩, ⟨.recs sh c, f, .rows 3⟩] := by
 subst hr; subst hu
 unfold retG leSel leSelBy autoSel
 simp [pairsL, pairsV, pairsIn, idPairs, selOf, lookN, findSel, selMem, chkB, nodupSel, hasSel, prefSel, leSt, leL, leV, nilToL, V.nilTo, isNilS, isGhost, selL, V.sel, Cells.selN, leMem, leCells, memUnder, underL, V.under]
 try trivial
theorem vc_spec_taPaint (k : Int) (s i : Int) (n : Nat) (c : List Sc) (w h : Int) (u : List UInt8) (x y d q : Int) (hp : cellsX ⟨w, h, u, x, y, d, q⟩ = true /\ hasX ⟨w, h, u, x, y, d, q⟩ x y = true /\ 0 <= k /\ k <= 9) : VC_spec_taPaint k s i n c w h u x y d q (retG 2 (.int .i64 (colX ⟨w, h, u, x, y, d, q⟩ x y % 256)) [⟨.vals [.int .i64 s, .int .i64 i, .row 1 n, .int .i64 (pntX ⟨w, h, u, x, y, d, q⟩ x y k).w, .int .i64 (pntX ⟨w, h, u, x, y, d, q⟩ x y k).h, .str (pntX ⟨w, h, u, x, y, d, q⟩ x y k).u, .int .i64 (pntX ⟨w, h, u, x, y, d, q⟩ x y k).x, .int .i64 (pntX ⟨w, h, u, x, y, d, q⟩ x y k).y, .int .i64 (pntX ⟨w, h, u, x, y, d, q⟩ x y k).d, .int .i64 (pntX ⟨w, h, u, x, y, d, q⟩ x y k).q], 33, .box⟩, ⟨.recs [.int .i64, .str, .int .i64] c, 96, .rows 3⟩]) := by
 obtain ⟨hg, hh, hk⟩ := hp
 obtain ⟨e1, e2, e3, f1, f2, f5, f6⟩ := ix_facts hg hh
 simp only at e1 e2 e3 f1 f2 f5 f6
 unfold VC_spec_taPaint
 rw [e1, e2, e3, f6, wrapu8, wrap64_in (x := _ % 256) (by omega)]
 simp only [at_iff, List.length_append, num1_len, List.length_take, List.length_drop, true_and]
 exact ⟨⟨by omega, by omega⟩, ⟨by omega, by omega⟩, ⟨by omega, by omega⟩, by omega, ⟨by omega, by omega⟩, by omega, retG_bi rfl rfl⟩
theorem vc_spec_taOwn (s i : Int) (n : Nat) (c : List Sc) (w h : Int) (u : List UInt8) (x y d q : Int) (hp : is3 c n /\ n <= 2000000 /\ 1 <= n) : VC_spec_taOwn s i n c w h u x y d q (retG 1 (.agg [.int .i64 s, .int .i64 i, .row 1 n, .int .i64 w, .int .i64 h, .str u, .int .i64 x, .int .i64 y, .int .i64 d, .int .i64 q]) [⟨.recs [.int .i64, .str, .int .i64] c, 96, .rows 3⟩, ⟨.recs [.int .i64, .str, .int .i64] c, 96, .rows 3⟩]) := by
 obtain ⟨h1, h2, h3⟩ := hp
 have hl := is3_len h1
 unfold VC_spec_taOwn
 rw [List.nil_append, List.take_of_length_le (by omega), Nat.zero_add]
 refine ⟨⟨⟨by simp, by omega⟩, by simp [posM, rowKind], by omega⟩, ?_⟩
 unfold retG leSel leSelBy autoSel
 simp [pairsL, pairsV, pairsIn, idPairs, selOf, lookN, findSel, selMem, chkB, nodupSel, hasSel, prefSel, leSt, leL, leV, nilToL, V.nilTo, isNilS, isGhost, selL, V.sel, Cells.selN, leMem, leCells, memUnder, underL, V.under]
 try trivial
theorem row_get {c : List Sc} {n : Nat} (h : is3 c n) {j : Nat} (hj : j < n) (d0 : Sc) : (c.getD (j * 3) d0).i = ((rows3 c).getD j default).a /\ (c.getD (j * 3 + 1) d0).s = ((rows3 c).getD j default).t /\ (c.getD (j * 3 + 1 + 1) d0).i = ((rows3 c).getD j default).b := by
 have := flat3_get (rows3 c) j d0 (by rw [h.2]; exact hj)
 rw [<- h.1] at this
 rw [this.1, this.2.1, this.2.2]
 exact ⟨rfl, rfl, rfl⟩
theorem vc_impl_rowAt (q k s i : Int) (n : Nat) (c : List Sc) (hp : is3 c n /\ n <= 2000000 /\ tabB s i (rows3 c) = true /\ 0 <= q /\ q <= s - 1 /\ 0 <= k /\ k <= i - 1) : VC_impl_rowAt q k s i n c (retG 1 (rowV ((rows3 c).getD (q * i + k).toNat default)) [⟨.recs [.int .i64, .str, .int .i64] c, 96, .rows 3⟩]) := by
 obtain ⟨h1, h2, h3, q0, q1, k0, k1⟩ := hp
 obtain ⟨t1, t2, t3, _⟩ := tab_iff h3
 have hl := is3_len h1
 rw [h1.2] at t3
 have hx := row_ix t1 t2 t3 ⟨q0, q1⟩ ⟨k0, k1⟩
 unfold VC_impl_rowAt
 rw [wrap64_in (x := q * i) (by omega), wrap64_in (x := q * i + k) (by omega)]
 obtain ⟨r1, r2, r3⟩ := row_get h1 (j := (q * i + k).toNat) (by omega) ⟨0, []⟩
 rw [r1, r2, r3]
 refine ⟨⟨by omega, by omega⟩, ⟨by omega, by omega⟩, ?_⟩
 unfold rowV retG leSel leSelBy autoSel
 simp [pairsL, pairsV, pairsIn, idPairs, selOf, lookN, findSel, selMem, chkB, nodupSel, hasSel, prefSel, leSt, leL, leV, nilToL, V.nilTo, isNilS, isGhost, selL, V.sel, Cells.selN, leMem, leCells, memUnder, underL, V.under]
 try trivial
theorem retG_ac {a b : Sx} {c : List Sc} {sh : List Sh} {e f : TypeId} {k g : Kind} {g0 g1 g2 g3 : List UInt8} {J : List Blk} (h : b = a) : retG 2 (acV a) [⟨.recs sh c, e, k⟩, ⟨.vals [.str g0, .str g1, .str g2, .str g3], f, g⟩] (acV b) (⟨.recs sh c, e, k⟩ :: ⟨.vals [.str g0, .str g1, .str g2, .str g3], f, g⟩ :: J) := by
 subst h
 unfold retG leSel leSelBy autoSel acV
 simp [pairsL, pairsV, pairsIn, idPairs, selOf, lookN, findSel, selMem, chkB, nodupSel, hasSel, prefSel, leSt, leL, leV, nilToL, V.nilTo, isNilS, isGhost, selL, V.sel, Cells.selN, leMem, leCells, memUnder, underL, V.under]
theorem retG_sc1 {s i w h x y d q : Int} {n : Nat} {c : List Sc} {sh : List Sh} {u : List UInt8} {e : TypeId} {b1 b2 b3 : Blk} : retG 1 (.agg [.int .i64 s, .int .i64 i, .row 1 n, .int .i64 w, .int .i64 h, .str u, .int .i64 x, .int .i64 y, .int .i64 d, .int .i64 q]) [⟨.recs sh c, e, .rows 3⟩, ⟨.recs sh c, e, .rows 3⟩] (.agg [.int .i64 s, .int .i64 i, .row 4 n, .int .i64 w, .int .i64 h, .str u, .int .i64 x, .int .i64 y, .int .i64 d, .int .i64 q]) [⟨.recs sh c, e, .rows 3⟩, b1, b2, b3, ⟨.recs sh c, e, .rows 3⟩] := by
 unfold retG leSel leSelBy autoSel
 simp [pairsL, pairsV, pairsIn, idPairs, selOf, lookN, findSel, selMem, chkB, nodupSel, hasSel, prefSel, leSt, leL, leV, nilToL, V.nilTo, isNilS, isGhost, selL, V.sel, Cells.selN, leMem, leCells, memUnder, underL, V.under]
 try trivial
theorem vc_impl_actor_scene (w h : Int) (u : List UInt8) (x y d q s i : Int) (n : Nat) (c : List Sc) (hp : is3 c n /\ n <= 2000000 /\ 1 <= n) : VC_impl_actor_scene w h u x y d q s i n c (retG 1 (.agg [.int .i64 s, .int .i64 i, .row 1 n, .int .i64 w, .int .i64 h, .str u, .int .i64 x, .int .i64 y, .int .i64 d, .int .i64 q]) [⟨.recs [.int .i64, .str, .int .i64] c, 96, .rows 3⟩, ⟨.recs [.int .i64, .str, .int .i64] c, 96, .rows 3⟩]) := by
 unfold VC_impl_actor_scene
 refine ⟨?_, retG_sc1⟩
 have h1 : VC_impl_actor_scene_q1 w h u x y d q s i n c := by
  unfold VC_impl_actor_scene_q1
  simp [at_iff, hp]
 simp only [h1, true_and, and_true, and_self]
/-! ### results -/
theorem retG_n1 {c : List Sc} {sh : List Sh} {e f : TypeId} {J : List Blk} : retG 1 (.tup [.agg [.int .i64 0, .int .i64 0, .row 1 0, .int .i64 0, .int .i64 0, .str [], .int .i64 0, .int .i64 0, .int .i64 0, .int .i64 0], .bool false]) [⟨.recs sh c, e, .rows 3⟩, ⟨.recs sh [], f, .rows 3⟩] (.tup [.agg [.int .i64 0, .int .i64 0, .raw (.slice none 0 0), .int .i64 0, .int .i64 0, .str (Array.toList #[]), .int .i64 0, .int .i64 0, .int .i64 0, .int .i64 0], .lit false]) (⟨.recs sh c, e, .rows 3⟩ :: J) := by
 unfold retG leSel leSelBy autoSel
 simp [pairsL, pairsV, idPairs, pairsIn, selOf, lookN, selMem, chkB, nodupSel, hasSel, prefSel, leSt, leL, leV, nilToL, V.nilTo, isNilS, isGhost, findSel, selL, V.sel, Cells.selN, Cells.none0, leMem, leCells, memUnder, underL, V.under, Kind.isRow]
 try exact trivial
theorem retG_n2 {c : List Sc} {sh : List Sh} {e f y' : TypeId} {z : Kind} {g0 g1 g2 g3 : List UInt8} {J : List Blk} : retG 2 (.tup [.agg [.int .i64 0, .int .i64 0, .row 2 0, .int .i64 0, .int .i64 0, .str [], .int .i64 0, .int .i64 0, .int .i64 0, .int .i64 0], .bool false]) [⟨.recs sh c, e, .rows 3⟩, ⟨.vals [.str g0, .str g1, .str g2, .str g3], y', z⟩, ⟨.recs sh [], f, .rows 3⟩] (.tup [.agg [.int .i64 0, .int .i64 0, .raw (.slice none 0 0), .int .i64 0, .int .i64 0, .str (Array.toList #[]), .int .i64 0, .int .i64 0, .int .i64 0, .int .i64 0], .lit false]) (⟨.recs sh c, e, .rows 3⟩ :: ⟨.vals [.str g0, .str g1, .str g2, .str g3], y', z⟩ :: J) := by
 unfold retG leSel leSelBy autoSel
 simp [pairsL, pairsV, idPairs, pairsIn, selOf, lookN, selMem, chkB, nodupSel, hasSel, prefSel, leSt, leL, leV, nilToL, V.nilTo, isNilS, isGhost, findSel, selL, V.sel, Cells.selN, Cells.none0, leMem, leCells, memUnder, underL, V.under, Kind.isRow]
 try exact trivial
theorem retG_y1 {s i w h x y d q : Int} {n m : Nat} {u : List UInt8} {c r r' : List Sc} {sh : List Sh} {e f : TypeId} {b1 b2 : Blk} {J : List Blk} (hm : m = n) (hr : r' = r) : retG 1 (.tup [.agg [.int .i64 s, .int .i64 i, .row 1 n, .int .i64 w, .int .i64 h, .str u, .int .i64 x, .int .i64 y, .int .i64 d, .int .i64 q], .bool true]) [⟨.recs sh c, e, .rows 3⟩, ⟨.recs sh r, f, .rows 3⟩] (.tup [.agg [.int .i64 s, .int .i64 i, .row 3 m, .int .i64 w, .int .i64 h, .str u, .int .i64 x, .int .i64 y, .int .i64 d, .int .i64 q], .lit true]) (⟨.recs sh c, e, .rows 3⟩ :: b1 :: b2 :: ⟨.recs sh r', f, .rows 3⟩ :: J) := by
 subst hm; subst hr
 unfold retG leSel leSelBy autoSel
 simp [pairsL, pairsV, idPairs, pairsIn, selOf, lookN, selMem, chkB, nodupSel, hasSel, prefSel, leSt, leL, leV, nilToL, V.nilTo, isNilS, isGhost, findSel, selL, V.sel, Cells.selN, Cells.none0, leMem, leCells, memUnder, underL, V.under, Kind.isRow]
 try exact trivial
theorem retG_y2 {s i w h x y d q : Int} {n m : Nat} {u : List UInt8} {c r r' : List Sc} {sh : List Sh} {e f y' : TypeId} {z : Kind} {g0 g1 g2 g3 : List UInt8} {b1 b2 : Blk} {g : Bool} {v : V} (hv : v = .bool g \/ v = .lit g) (hm : m = n) (hr : r' = r) : retG 2 (.tup [.agg [.int .i64 s, .int .i64 i, .row 2 n, .int .i64 w, .int .i64 h, .str u, .int .i64 x, .int .i64 y, .int .i64 d, .int .i64 q], .bool g]) [⟨.recs sh c, e, .rows 3⟩, ⟨.vals [.str g0, .str g1, .str g2, .str g3], y', z⟩, ⟨.recs sh r, f, .rows 3⟩] (.tup [.agg [.int .i64 s, .int .i64 i, .row 4 m, .int .i64 w, .int .i64 h, .str u, .int .i64 x, .int .i64 y, .int .i64 d, .int .i64 q], v]) [⟨.recs sh c, e, .rows 3⟩, ⟨.vals [.str g0, .str g1, .str g2, .str g3], y', z⟩, b1, b2, ⟨.recs sh r', f, .rows 3⟩] := by
 subst hm; subst hr
 unfold retG leSel leSelBy autoSel
 rcases hv with rfl | rfl <;> simp [pairsL, pairsV, idPairs, pairsIn, selOf, lookN, selMem, chkB, nodupSel, hasSel, prefSel, leSt, leL, leV, nilToL, V.nilTo, isNilS, isGhost, findSel, selL, V.sel, Cells.selN, Cells.none0, leMem, leCells, memUnder, underL, V.under, Kind.isRow] <;> try exact trivial
theorem scene_yes {s i : Int} {l : List Row3} {w h : Int} {u : List UInt8} {x y d q : Int} (h0 : sceneB s i l w h u x y d q = true) : tabB s i l = true /\ goodX s i ⟨w, h, u, x, y, d, q⟩ = true := by
 unfold sceneB at h0
 rwa [Bool.and_eq_true] at h0
end Go.Vi
