/- Rows of spots: the conditions hold. -/
import Derived.Test.YtpkokghbkamelaaF0Vc
import Derived.Test.YtpkokghbkamelaaF0Spec
namespace Go.Vi
theorem vc_laws_eqSpot (ax ay ak bx by_ bk : Int) (_ : True) : VC_laws_eqSpot ax ay ak bx by_ bk (retP (.bool (ax == bx && ay == by_ && ak == bk))) := by
 unfold VC_laws_eqSpot
 simp only [retP_lit]
 refine ⟨fun h => ?_, fun h => ⟨fun h2 => ?_, fun h2 => ⟨fun h3 => ?_, fun h3 => ?_⟩⟩⟩
 all_goals simp_all
theorem sp3_at {i : Int} : i.toNat * 3 + 0 = sp3 i /\ i.toNat * 3 = sp3 i /\ i.toNat * 3 + 1 = sp3 i + 1 /\ i.toNat * 3 + 2 = sp3 i + 2 := by unfold sp3; omega
theorem sp3_next {i : Int} (h : 0 <= i) : sp3 (i + 1) = sp3 i + 1 + 1 + 1 := by unfold sp3; omega
theorem sp3_lt {i : Int} {n : Nat} (h : 0 <= i /\ i < n) : sp3 i + 2 < 3 * n := by unfold sp3; omega
theorem take_succ_int {l : List Int} {i : Nat} (h : i < l.length) : l.take (i + 1) = l.take i ++ [l.getD i 0] := by
 rw [List.take_succ_eq_append_getElem h]
 simp [List.getD_eq_getElem?_getD, List.getElem?_eq_getElem h]
theorem retG_sp2 {q r : Bool} {a b : List Int} {e : TypeId} (h : q = r) : retG 2 (.bool r) [⟨.ints .i64 a, e, .rows 3⟩, ⟨.ints .i64 b, e, .rows 3⟩] (.lit q) [⟨.ints .i64 a, e, .rows 3⟩, ⟨.ints .i64 b, e, .rows 3⟩] := by
 subst h
 unfold retG leSel leSelBy autoSel
 simp [pairsL, pairsV, idPairs, pairsIn, selOf, lookN, selMem, chkB, nodupSel, hasSel, prefSel, leSt, leL, leV, nilToL, V.nilTo, selL, V.sel, Cells.selN, leMem, leCells, memUnder, underL, V.under]
theorem retG_sp1 {q r : Int} {a b : List Int} {e : TypeId} (h : q = r) (hb : b = a) : retG 1 (.int .i64 r) [⟨.ints .i64 a, e, .rows 3⟩] (.int .i64 q) [⟨.ints .i64 b, e, .rows 3⟩] := by
 subst h; subst hb
 unfold retG leSel leSelBy autoSel
 simp [pairsL, pairsV, idPairs, pairsIn, selOf, lookN, selMem, chkB, nodupSel, hasSel, prefSel, leSt, leL, leV, nilToL, V.nilTo, selL, V.sel, Cells.selN, leMem, leCells, memUnder, underL, V.under]
theorem ne_of_getD {a b : List Int} {i : Nat} (h : a.getD i 0 ≠ b.getD i 0) : (a == b) = false := by
 rw [beq_eq_false_iff_ne]
 rintro rfl
 exact h rfl
theorem vc_laws_eqSpotS (n m : Nat) (a b : List Int) (h : a.length = 3 * n /\ b.length = 3 * m /\ n <= 2000000 /\ m <= 2000000) : VC_laws_eqSpotS n m a b (retG 2 (.bool (a == b)) [⟨.ints .i64 a, 63, .rows 3⟩, ⟨.ints .i64 b, 63, .rows 3⟩]) := by
 obtain ⟨ha, hb, h1, h2⟩ := h
 unfold VC_laws_eqSpotS
 refine ⟨fun hne => ?_, fun heq => ⟨by simp, ⟨by omega, by omega, rfl⟩, fun i hi => ⟨fun hc => ?_, fun hc => ?_⟩⟩⟩
 ·refine retG_sp2 ?_
  symm
  rw [beq_eq_false_iff_ne]
  rintro rfl
  simp only [bne_iff_ne, ne_eq] at hne
  omega
 ·have hc := of_decide_eq_true hc
  simp only [bne_eq_false_iff_eq] at heq
  obtain ⟨g1, g2, g3⟩ := hi
  have hl := sp3_lt ⟨g1, hc⟩
  obtain ⟨_, e0, e1, _⟩ := @sp3_at i
  rw [wrap64_in (x := i + 1) (by omega), e0]
  refine ⟨trivial, ⟨g1, hc⟩, ⟨by omega⟩, ⟨by omega, by omega⟩, ⟨by omega⟩, ⟨trivial⟩, fun hn => retG_sp2 ?_, fun he => ⟨by simp, ⟨⟨by omega, by omega, ?_⟩, by omega⟩⟩⟩
  ·simp only [Bool.not_eq_true', Bool.and_eq_false_iff, beq_eq_false_iff_ne] at hn
   rcases hn with (hn | hn) | hn
   ·rw [ne_of_getD hn]
   ·rw [ne_of_getD hn]
   ·rw [ne_of_getD hn]
  ·simp only [Bool.not_eq_false', Bool.and_eq_true, beq_iff_eq] at he
   obtain ⟨⟨x1, x2⟩, x3⟩ := he
   rw [sp3_next g1, take_succ_int (show sp3 i + 1 + 1 < a.length by omega), take_succ_int (show sp3 i + 1 < a.length by omega), take_succ_int (show sp3 i < a.length by omega),
    take_succ_int (show sp3 i + 1 + 1 < b.length by omega), take_succ_int (show sp3 i + 1 < b.length by omega), take_succ_int (show sp3 i < b.length by omega), g3, x1, x2, x3]
 ·have hc := of_decide_eq_false hc
  simp only [bne_eq_false_iff_eq] at heq
  obtain ⟨g1, g2, g3⟩ := hi
  refine retG_sp2 ?_
  rw [List.take_of_length_le (by unfold sp3; omega), List.take_of_length_le (by unfold sp3; omega)] at g3
  simp [g3]
theorem vc_laws_eqPlain (ar : List UInt8) (an : Nat) (ax ay ad : Int) (cr : List UInt8) (cn : Nat) (cx cy cd : Int) (a b : List Int) (h : a.length = 3 * an /\ b.length = 3 * cn /\ an <= 2000000 /\ cn <= 2000000) : VC_laws_eqPlain ar an ax ay ad cr cn cx cy cd a b
  (retG 2 (.bool (ar == cr && a == b && ax == cx && ay == cy && ad == cd)) [⟨.ints .i64 a, 63, .rows 3⟩, ⟨.ints .i64 b, 63, .rows 3⟩]) := by
 unfold VC_laws_eqPlain
 have key : ∀ q : Bool, q = (ar == cr && a == b && ax == cx && ay == cy && ad == cd) -> ∀ b2 b3 : Blk, retG 2 (.bool (ar == cr && a == b && ax == cx && ay == cy && ad == cd)) [⟨.ints .i64 a, 63, .rows 3⟩, ⟨.ints .i64 b, 63, .rows 3⟩] (.lit q) [⟨.ints .i64 a, 63, .rows 3⟩, ⟨.ints .i64 b, 63, .rows 3⟩, b2, b3] := by
  intro q hq b2 b3
  subst hq
  unfold retG leSel leSelBy autoSel
  simp [pairsL, pairsV, idPairs, pairsIn, selOf, lookN, selMem, chkB, nodupSel, hasSel, prefSel, leSt, leL, leV, nilToL, V.nilTo, selL, V.sel, Cells.selN, leMem, leCells, memUnder, underL, V.under]
 refine ⟨fun c1 => key _ ?_ _ _, fun c1 => ⟨⟨h⟩, fun c2 => key _ ?_ _ _, fun c2 => ⟨fun c3 => key _ ?_ _ _, fun c3 => ⟨fun c4 => key _ ?_ _ _, fun c4 => ⟨fun c5 => key _ ?_ _ _, fun c5 => key _ ?_ _ _⟩⟩⟩⟩⟩
 all_goals simp_all
theorem ramp_len (k : Int) (n : Nat) : (ramp k n).length = n := by simp [ramp]
theorem ramp_succ (k : Int) (n : Nat) : ramp k (n + 1) = ramp k n ++ [k + (n : Int)] := by simp [ramp, List.range_succ]
theorem mksRow_len {a : List Int} {k : Int} {m : Nat} (h : m <= a.length) : (mksRow a k m).length = a.length := by
 simp only [mksRow, List.length_append, ramp_len, List.length_drop]
 omega
theorem mksRow_set {a : List Int} {k v : Int} {m : Nat} (h : m < a.length) (hv : v = k + (m : Int)) : (mksRow a k m).set m v = mksRow a k (m + 1) := by
 subst hv
 unfold mksRow
 rw [List.set_append_right _ _ (by rw [ramp_len]; exact Nat.le_refl _), ramp_len, Nat.sub_self, List.drop_eq_getElem_cons h, List.set_cons_zero, ramp_succ, List.append_assoc]
 rfl
theorem vc_laws_markSpotS (k : Int) (n : Nat) (a : List Int) (h : a.length = 3 * n /\ n <= 2000000 /\ 0 <= k /\ k <= 1000) : VC_laws_markSpotS k n a (retG 1 (.int .i64 (k + (3 * n : Nat))) [⟨.ints .i64 (ramp k (3 * n)), 63, .rows 3⟩]) := by
 obtain ⟨ha, h1, h2, h3⟩ := h
 unfold VC_laws_markSpotS
 refine ⟨by simp [mksRow, ramp, sp3], ⟨by omega, by omega⟩, fun i hi => ⟨fun hc => ?_, fun hc => ?_⟩⟩
 ·have hc := of_decide_eq_true hc
  obtain ⟨g1, g2⟩ := hi
  have hl := sp3_lt ⟨g1, hc⟩
  obtain ⟨e0, _, e1, e2⟩ := @sp3_at i
  have hs : (sp3 i : Int) = 3 * i := by unfold sp3; omega
  rw [e0, e1, e2, wrap64_in (x := i + 1) (by omega), wrap64_in (x := k + 3 * i + 1) (by omega), wrap64_in (x := k + 3 * i + 1 + 1) (by omega), wrap64_in (x := k + 3 * i + 1 + 1 + 1) (by omega), mksRow_set (by omega) (by omega), mksRow_set (by omega) (by omega), mksRow_set (m := sp3 i + 1 + 1) (by omega) (by omega), sp3_next g1,
   mksRow_len (by omega), mksRow_len (by omega), mksRow_len (by omega)]
  refine ⟨⟨g1, hc⟩, ⟨by omega⟩, ⟨g1, hc⟩, ⟨by omega⟩, ⟨g1, hc⟩, ⟨by omega⟩, ?_, ⟨⟨by omega, by omega⟩, by omega⟩⟩
  refine ⟨⟨⟨rfl, rfl⟩, ⟨trivial, by omega⟩, ⟨trivial, rfl⟩, trivial⟩, ⟨⟨trivial, rfl, rfl⟩, trivial⟩, trivial⟩
 ·have hc := of_decide_eq_false hc
  obtain ⟨g1, g2⟩ := hi
  have e : i = (n : Int) := by omega
  subst e
  have e2 : sp3 (n : Int) = 3 * n := by unfold sp3; omega
  refine retG_sp1 (by omega) ?_
  rw [e2]
  unfold mksRow
  rw [<- ha, List.drop_length, List.append_nil]
theorem ramp_getD {k : Int} {n m : Nat} (h : m < n) : (ramp k n).getD m 0 = k + (m : Int) := by
 simp [ramp, List.getD_eq_getElem?_getD, h]
theorem vc_laws_heldSpotS (k : Int) (n : Nat) (a : List Int) (h : a.length = 3 * n /\ n <= 2000000 /\ 0 <= k /\ k <= 1000) : VC_laws_heldSpotS k n a (retG 1 (.int .i64 (bif a == ramp k (3 * n) then k + (3 * n : Nat) else -1)) [⟨.ints .i64 a, 63, .rows 3⟩]) := by
 obtain ⟨ha, h1, h2, h3⟩ := h
 unfold VC_laws_heldSpotS
 refine ⟨by simp, ⟨by omega, by omega, by simp [ramp, sp3]⟩, fun i hi => ⟨fun hc => ?_, fun hc => ?_⟩⟩
 ·have hc := of_decide_eq_true hc
  obtain ⟨g1, g2, g3⟩ := hi
  have hl := sp3_lt ⟨g1, hc⟩
  obtain ⟨e0, _, e1, e2⟩ := @sp3_at i
  have hs : (sp3 i : Int) = 3 * i := by unfold sp3; omega
  have bad : ∀ (m : Nat) (v : Int), m < 3 * n -> v = k + (m : Int) -> (a.getD m 0 != v) = true -> (a == ramp k (3 * n)) = false := by
   intro m v hm hv hn
   simp only [bne_iff_ne, ne_eq] at hn
   exact ne_of_getD (i := m) (by rw [ramp_getD hm, <- hv]; exact hn)
  rw [e0, e1, e2, wrap64_in (x := i + 1) (by omega), wrap64_in (x := k + 3 * i + 1) (by omega), wrap64_in (x := k + 3 * i + 1 + 1) (by omega), wrap64_in (x := k + 3 * i + 1 + 1 + 1) (by omega)]
  refine ⟨⟨g1, hc⟩, ⟨by omega⟩, fun hn => retG_sp1 ?_ rfl, fun x1 => ⟨⟨g1, hc⟩, ⟨by omega⟩, fun hn => retG_sp1 ?_ rfl, fun x2 => ⟨⟨g1, hc⟩, ⟨by omega⟩, fun hn => retG_sp1 ?_ rfl, fun x3 => ⟨?_, ⟨⟨by omega, by omega, ?_⟩, by omega⟩⟩⟩⟩⟩
  ·rw [bad _ _ (by omega) (by omega) hn]; rfl
  ·rw [bad _ _ (by omega) (by omega) hn]; rfl
  ·rw [bad _ _ (by omega) (by omega) hn]; rfl
  ·refine ⟨⟨⟨rfl, rfl⟩, ⟨trivial, by omega⟩, ⟨trivial, rfl⟩, trivial⟩, ⟨⟨trivial, rfl, rfl⟩, trivial⟩, trivial⟩
  ·simp only [bne_eq_false_iff_eq] at x1 x2 x3
   rw [sp3_next g1, take_succ_int (show sp3 i + 1 + 1 < a.length by omega), take_succ_int (show sp3 i + 1 < a.length by omega), take_succ_int (show sp3 i < a.length by omega), ramp_succ, ramp_succ, ramp_succ, g3, x1, x2, x3]
   rw [show k + ((sp3 i : Nat) : Int) = k + 3 * i by omega, show k + ((sp3 i + 1 : Nat) : Int) = k + 3 * i + 1 by omega, show k + ((sp3 i + 1 + 1 : Nat) : Int) = k + 3 * i + 1 + 1 by omega]
 ·have hc := of_decide_eq_false hc
  obtain ⟨g1, g2, g3⟩ := hi
  have e : i = (n : Int) := by omega
  subst e
  have e2 : sp3 (n : Int) = 3 * n := by unfold sp3; omega
  rw [e2, <- ha, List.take_length] at g3
  refine retG_sp1 ?_ rfl
  rw [<- ha, <- g3]
  simp
  omega
theorem retG_first {s t : List UInt8} {b : Bool} {b0 : Blk} {e : TypeId} (h : t = s) : retG 0 (.tup [.agg [.str s, .row 0 0, .int .i64 0, .int .i64 0, .int .i64 0], .bool b]) [⟨.ints .i64 [], e, .rows 3⟩] (.tup [.agg [.str t, .raw (.slice none 0 0), .int .i64 0, .int .i64 0, .int .i64 0], .lit b]) [b0] := by
 subst h
 unfold retG leSel leSelBy autoSel
 simp [pairsL, pairsV, idPairs, pairsIn, selOf, lookN, selMem, chkB, nodupSel, prefSel, leSt, leL, leV, nilToL, V.nilTo, isNilS, isGhost, selL, V.sel, Cells.none0, leMem, leCells, memUnder, underL, V.under, Kind.isRow]
 exact trivial
end Go.Vi
