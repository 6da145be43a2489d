/- A clue more: the conditions hold. -/
import Derived.Test.YtickpjdnncpnmaaPOVc
import Derived.Test.YtickpjdnncpnmaaPOSpec
namespace Go.Vi
theorem retG_pzN {a : List Int} {e : TypeId} {rest : List Blk} : retG 1 (.tup [.agg [.str [], .int .i64 0, .int .i64 0, .row 1 0], .bool false]) [⟨.ints .i64 a, e, .rows 3⟩, ⟨.ints .i64 [], e, .rows 3⟩]
  (.tup [.agg [.str [], .int .i64 0, .int .i64 0, .raw (.slice none 0 0)], .lit false]) (⟨.ints .i64 a, e, .rows 3⟩ :: rest) := by
 unfold retG leSel leSelBy autoSel
 simp [pairsL, pairsV, idPairs, pairsIn, selOf, lookN, selMem, chkB, nodupSel, hasSel, prefSel, leSt, leL, leV, nilToL, V.nilTo, isNilS, isGhost, findSel, selL, V.sel, Cells.selN, Cells.none0, Kind.isRow, leMem, leCells, memUnder, underL, V.under]
 exact trivial
theorem retG_pz4 {a l : List Int} {e : TypeId} {n : Nat} {b1 b2 b3 : Blk} {r : List UInt8} {w h : Int} : retG 1 (.tup [.agg [.str r, .int .i64 w, .int .i64 h, .row 1 n], .bool true]) [⟨.ints .i64 a, e, .rows 3⟩, ⟨.ints .i64 l, e, .rows 3⟩]
  (.tup [.agg [.str r, .int .i64 w, .int .i64 h, .row 4 n], .lit true]) [⟨.ints .i64 a, e, .rows 3⟩, b1, b2, b3, ⟨.ints .i64 l, e, .rows 3⟩] := by
 unfold retG leSel leSelBy autoSel
 simp [pairsL, pairsV, idPairs, pairsIn, selOf, lookN, selMem, chkB, nodupSel, hasSel, prefSel, leSt, leL, leV, nilToL, V.nilTo, isNilS, findSel, selL, V.sel, Cells.selN, leMem, leCells, memUnder, underL, V.under]
 exact trivial
theorem vc_spec_AddClue (cx cy ck : Int) (pr : List UInt8) (pw ph : Int) (n : Nat) (a : List Int) (h : a.length = n * 3 /\ n <= 2000000) : VC_spec_AddClue cx cy ck pr pw ph n a
  (retG 1 (.tup [.agg [.str (acR pr pw ph n a cx cy ck), .int .i64 (acW pr pw ph n a cx cy ck), .int .i64 (acH pr pw ph n a cx cy ck), .row 1 (acN pr pw ph n a cx cy ck)], .bool (acG pr pw ph n a cx cy ck)])
   [⟨.ints .i64 a, 34, .rows 3⟩, ⟨.ints .i64 (acB pr pw ph n a cx cy ck), 34, .rows 3⟩]) := by
 unfold VC_spec_AddClue acR acW acH acN acB acG
 refine ⟨⟨h⟩, fun h1 => ?_, fun h1 => ?_⟩
 ·simp only [Bool.not_eq_true'] at h1
  rw [show okA (goodZ pr pw ph n a) n pr pw ph cx cy ck = false by simp [okA, h1]]
  exact retG_pzN
 ·simp only [Bool.not_eq_false'] at h1
  have h6 := goodZ_bd h1
  have hs : sizeB pr pw ph = true := by
   unfold goodZ at h1
   simp only [Bool.and_eq_true] at h1
   exact h1.1.1
  have hb := size_bd hs
  rw [wrap64_in (x := pw * ph) (by omega)]
  refine ⟨⟨by omega, by omega, by omega⟩, fun h2 => ?_, fun h2 => ⟨fun h3 => ?_, fun h3 => ?_⟩⟩
  ·simp only [Bool.not_eq_true'] at h2
   rw [show okA (goodZ pr pw ph n a) n pr pw ph cx cy ck = false by simp [okA, h2]]
   exact retG_pzN
  ·have h3 : n = 6 := by
    simp only [beq_iff_eq] at h3
    omega
   rw [show okA (goodZ pr pw ph n a) n pr pw ph cx cy ck = false by simp [okA, h3]]
   exact retG_pzN
  ·have h3 : n < 6 := by
    simp only [beq_eq_false_iff_ne, ne_eq] at h3
    omega
   simp only [Bool.not_eq_false'] at h2
   rw [show okA (goodZ pr pw ph n a) n pr pw ph cx cy ck = true by simp [okA, h1, h2, h3]]
   have ht : List.take (n * 3) a = a := List.take_of_length_le (by omega)
   have hl := h.1
   have e1 : n <= 1000000000 := by omega
   have e2 : n + 1 <= 1000000000 := by omega
   refine ⟨?_, retG_pz4⟩
   unfold VC_spec_AddClue_q1
   simp only [at_iff, posM, rowKind, List.length_nil, Nat.zero_mul, Nat.zero_add, List.nil_append, ht, hl, e1, e2, Nat.le_refl, and_self, List.length_cons, Nat.one_mul, true_and, and_true]
   simp
theorem vc_impl_AddClue (cx cy ck : Int) (pr : List UInt8) (pw ph : Int) (n : Nat) (a : List Int) (h : a.length = n * 3 /\ n <= 2000000) : VC_impl_AddClue cx cy ck pr pw ph n a
  (retG 1 (.tup [.agg [.str (acR pr pw ph n a cx cy ck), .int .i64 (acW pr pw ph n a cx cy ck), .int .i64 (acH pr pw ph n a cx cy ck), .row 1 (acN pr pw ph n a cx cy ck)], .bool (acG pr pw ph n a cx cy ck)])
   [⟨.ints .i64 a, 34, .rows 3⟩, ⟨.ints .i64 (acB pr pw ph n a cx cy ck), 34, .rows 3⟩]) := by
 unfold VC_impl_AddClue acR acW acH acN acB acG
 refine ⟨⟨h⟩, fun h1 => ?_, fun h1 => ?_⟩
 ·simp only [Bool.not_eq_true'] at h1
  rw [show okA (goodZ pr pw ph n a) n pr pw ph cx cy ck = false by simp [okA, h1]]
  exact retG_pzN
 ·simp only [Bool.not_eq_false'] at h1
  have h6 := goodZ_bd h1
  have hs : sizeB pr pw ph = true := by
   unfold goodZ at h1
   simp only [Bool.and_eq_true] at h1
   exact h1.1.1
  have hb := size_bd hs
  have hr : ruleB pr = true := by
   unfold sizeB at hs
   simp only [Bool.and_eq_true] at hs
   exact hs.1.1.1
  rw [wrap64_in (x := pw * ph) (by omega)]
  have hic : isClueB pr (pw * ph) cx cy ck = clueB cx cy ck pr.length (pw * ph) := by
   unfold isClueB
   rw [hr, inB_eq.2 ⟨by omega, by omega⟩]
   rfl
  rw [hic]
  refine ⟨⟨trivial⟩, fun h2 => ?_, fun h2 => ⟨fun h3 => ?_, fun h3 => ?_⟩⟩
  ·simp only [Bool.not_eq_true'] at h2
   rw [show okA (goodZ pr pw ph n a) n pr pw ph cx cy ck = false by simp [okA, h2]]
   exact retG_pzN
  ·have h3 : n = 6 := by
    simp only [beq_iff_eq] at h3
    omega
   rw [show okA (goodZ pr pw ph n a) n pr pw ph cx cy ck = false by simp [okA, h3]]
   exact retG_pzN
  ·have h3 : n < 6 := by
    simp only [beq_eq_false_iff_ne, ne_eq] at h3
    omega
   simp only [Bool.not_eq_false'] at h2
   rw [show okA (goodZ pr pw ph n a) n pr pw ph cx cy ck = true by simp [okA, h1, h2, h3]]
   have ht : List.take (n * 3) a = a := List.take_of_length_le (by omega)
   have hl := h.1
   have e2 : n + 1 <= 1000000000 := by omega
   have e3 : (0 : Int) <= (n : Int) := by omega
   refine ⟨?_, retG_pz4⟩
   simp only [at_iff, Int.toNat_natCast, Int.toNat_zero, Nat.sub_zero, Nat.zero_mul, List.drop_zero, ht, hl, e2, e3, Cells.len, Int.le_refl, Nat.le_refl, List.length_cons, List.length_nil, Nat.zero_add, Nat.one_mul, true_and, and_true, and_self]
   simp
end Go.Vi
