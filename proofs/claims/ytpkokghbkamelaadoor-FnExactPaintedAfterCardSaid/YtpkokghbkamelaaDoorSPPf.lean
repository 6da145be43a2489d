/- Cells painted: the conditions hold. -/
import Derived.Test.YtpkokghbkamelaaDoorSPVc
import Derived.Test.YtpkokghbkamelaaDoorSPSpec
namespace Go.Vi
set_option linter.unusedSimpArgs false
set_option linter.unusedVariables false
theorem cnt_take {b : UInt8} {c : List UInt8} {i : Nat} (h : i < c.length) : cntC b (c.take (i + 1)) = cntC b (c.take i) + (bif c.getD i 0 == b then 1 else 0) := by
 induction c generalizing i with
 | nil => simp at h
 | cons d r ih =>
  cases i with
  | zero => simp [cntC]
  | succ i =>
   simp only [List.take_succ_cons, cntC, List.getD_cons_succ]
   rw [ih (by simpa using h)]
   omega
theorem cnt_bd (b : UInt8) : ∀ c : List UInt8, 0 <= cntC b c /\ cntC b c <= (c.length : Int)
 | [] => by simp [cntC]
 | d :: r => by
  have := cnt_bd b r
  simp only [cntC, List.length_cons]
  cases d == b <;> simp only [cond_true, cond_false] <;> omega
theorem paN_bd (u : List UInt8) : 0 <= paN u /\ paN u <= (u.length : Int) := by
 have := cnt_bd 48 u
 unfold paN
 omega
theorem paN_take {u : List UInt8} {i : Nat} (h : i < u.length) : paN (u.take (i + 1)) = paN (u.take i) + (bif u.getD i 0 == 48 then 0 else 1) := by
 unfold paN
 rw [cnt_take h, List.length_take, List.length_take, Nat.min_eq_left (by omega), Nat.min_eq_left (by omega)]
 cases u.getD i 0 == 48 <;> simp only [cond_true, cond_false] <;> omega
theorem pa_step {u : List UInt8} {p : Int × Int} (h : paInv u p) (hl : p.2 < u.length) : (u.getD p.2.toNat 0 = 48 -> paInv u (p.1, p.2 + 1)) /\ (u.getD p.2.toNat 0 ≠ 48 -> paInv u (p.1 + 1, p.2 + 1)) /\ 0 <= p.1 /\ p.1 <= 81 := by
 obtain ⟨h1, h2, h3, h4⟩ := h
 have e : (p.2 + 1).toNat = p.2.toNat + 1 := by omega
 have hb := paN_bd (u.take p.2.toNat)
 have hlen : (u.take p.2.toNat).length <= 81 := by rw [List.length_take]; omega
 refine ⟨fun he => ⟨by simp only; omega, by simp only; omega, h3, ?_⟩, fun he => ⟨by simp only; omega, by simp only; omega, h3, ?_⟩, by omega, by omega⟩
 ·simp only
  rw [e, paN_take (by omega), he, h4]
  simp
 ·simp only
  rw [e, paN_take (by omega), h4, beq_eq_false_iff_ne.2 he]
  rfl
theorem retG_pa {q r : Int} {b : Bool} {c : List Sc} {sh : List Sh} {e : TypeId} {k : Kind} {J : List Blk} (h : q = r) : retG 1 (.tup [.int .i64 r, .bool b]) [⟨.recs sh c, e, k⟩] (.tup [.int .i64 q, .lit b]) (⟨.recs sh c, e, k⟩ :: J) := by
 subst h
 unfold retG leSel leSelBy autoSel
 simp [pairsL, pairsV, pairsIn, idPairs, selOf, lookN, findSel, selMem, chkB, nodupSel, hasSel, prefSel, leSt, leL, leV, nilToL, V.nilTo, isNilS, isGhost, selL, V.sel, Cells.selN, leMem, leCells, memUnder, underL, V.under]
theorem retG_pb {q r : Int} {b : Bool} {c : List Sc} {sh : List Sh} {e f : TypeId} {k g : Kind} {g0 g1 g2 g3 : List UInt8} {J : List Blk} (h : q = r) : retG 2 (.tup [.int .i64 r, .bool b]) [⟨.recs sh c, e, k⟩, ⟨.vals [.str g0, .str g1, .str g2, .str g3], f, g⟩] (.tup [.int .i64 q, .lit b]) (⟨.recs sh c, e, k⟩ :: ⟨.vals [.str g0, .str g1, .str g2, .str g3], f, g⟩ :: J) := by
 subst h
 unfold retG leSel leSelBy autoSel
 simp [pairsL, pairsV, pairsIn, idPairs, selOf, lookN, findSel, selMem, chkB, nodupSel, hasSel, prefSel, leSt, leL, leV, nilToL, V.nilTo, isNilS, isGhost, selL, V.sel, Cells.selN, leMem, leCells, memUnder, underL, V.under]
theorem aft_len {s i : Int} {l : List Row3} {w h : Int} {u : List UInt8} {x y d q m : Int} (hg : (sceneB s i l w h u x y d q && inB m 0 3000) = true) : (aftX true i l m.toNat ⟨w, h, u, x, y, d, q⟩).u.length <= 81 := by
 rw [Bool.and_eq_true] at hg
 obtain ⟨ht, h1⟩ := scene_yes hg.1
 have h2 := good_iff.1 (iter_good ht m.toNat _ h1)
 have h3 := cells_iff.1 h2.1
 have h4 := mul_bd h3.1 h3.2.1
 show (iterX i l m.toNat _).u.length <= 81
 omega
theorem byte48 {b : UInt8} : (((b.toNat : Int) != 48) = true ↔ b ≠ 48) /\ (((b.toNat : Int) != 48) = false ↔ b = 48) := by
 have h : (b.toNat : Int) = 48 ↔ b = 48 := by
  constructor
  ·intro h
   exact UInt8.toNat_inj.1 (by have : b.toNat = 48 := by omega
                               rw [this]; rfl)
  ·intro h
   rw [h]; rfl
 constructor
 ·rw [bne_iff_ne, ne_eq, h]
 ·rw [bne_eq_false_iff_eq, h]
theorem vc_spec_PaintedAfter (m : Int) (s i : Int) (n : Nat) (c : List Sc) (w h : Int) (u : List UInt8) (x y d q : Int) (hp : is3 c n /\ n <= 2000000) : VC_spec_PaintedAfter m s i n c w h u x y d q (retG 1 (.tup [.int .i64 (paN (aftX (sceneB s i (rows3 c) w h u x y d q && inB m 0 3000) i (rows3 c) m.toNat ⟨w, h, u, x, y, d, q⟩).u), .bool (sceneB s i (rows3 c) w h u x y d q && inB m 0 3000)]) [⟨.recs [.int .i64, .str, .int .i64] c, 96, .rows 3⟩]) := by
 unfold VC_spec_PaintedAfter
 refine ⟨⟨hp⟩, fun h1 => ?_, fun h1 => ?_⟩
 ·rw [Bool.not_eq_true'] at h1
  rw [h1]
  exact retG_pa rfl
 ·rw [Bool.not_eq_false'] at h1
  have hu := aft_len h1
  rw [h1]
  generalize (aftX true i (rows3 c) m.toNat ⟨w, h, u, x, y, d, q⟩) = A at hu ⊢
  refine ⟨by simp, ⟨Int.le_refl _, by simp only; omega, hu, by simp [paN, cntC]⟩, fun p hpp => ⟨fun hlt => ?_, fun hge => ?_⟩⟩
  ·have hlt := of_decide_eq_true hlt
   obtain ⟨k1, k2, k3, k4⟩ := pa_step hpp hlt
   have h0 := hpp.1
   rw [wrap64_in (x := p.1 + 1) (by omega), wrap64_in (x := p.2 + 1) (by omega)]
   exact ⟨⟨h0, hlt⟩, fun hne => ⟨by simp, ⟨k2 (byte48.1.1 hne), by omega⟩⟩, fun he => ⟨by simp, ⟨k1 (byte48.2.1 he), by omega⟩⟩⟩
  ·have hge := of_decide_eq_false hge
   obtain ⟨h0, h2, h3, h4⟩ := hpp
   exact retG_pa (by rw [h4, List.take_of_length_le (by omega)])
theorem vc_impl_PaintedAfter (m : Int) (s i : Int) (n : Nat) (c : List Sc) (w h : Int) (u : List UInt8) (x y d q : Int) (g0 g1 g2 g3 : List UInt8) (hp : is3 c n /\ n <= 2000000 /\ isSg g0 g1 g2 g3) : VC_impl_PaintedAfter m s i n c w h u x y d q g0 g1 g2 g3 (retG 2 (.tup [.int .i64 (paN (aftX (sceneB s i (rows3 c) w h u x y d q && inB m 0 3000) i (rows3 c) m.toNat ⟨w, h, u, x, y, d, q⟩).u), .bool (sceneB s i (rows3 c) w h u x y d q && inB m 0 3000)]) [⟨.recs [.int .i64, .str, .int .i64] c, 96, .rows 3⟩, ⟨.vals [.str g0, .str g1, .str g2, .str g3], 9, .gl 0⟩]) := by
 unfold VC_impl_PaintedAfter
 refine ⟨⟨hp⟩, fun h1 => ?_, fun h1 => ?_⟩
 ·rw [Bool.not_eq_true'] at h1
  rw [h1]
  exact retG_pb rfl
 ·rw [Bool.not_eq_false'] at h1
  have hu := aft_len h1
  rw [h1]
  generalize (aftX true i (rows3 c) m.toNat ⟨w, h, u, x, y, d, q⟩) = A at hu ⊢
  have hb := cnt_bd 48 A.u
  refine ⟨trivial, ⟨rfl⟩, retG_pb ?_⟩
  show IntKind.wrap .i64 ((A.u.length : Int) - cntC 48 A.u) = paN A.u
  rw [wrap64_in (by omega)]
  rfl
end Go.Vi
