/- Programs beside worlds; desks: the conditions hold. -/
import Derived.Test.YtickpjdnncpnmaaDKVc
import Derived.Test.YtickpjdnncpnmaaDKSpec
namespace Go.Vi
theorem vc_impl_isSign (b : Int) (_ : True) : VC_impl_isSign b (retP (.bool (signI b))) := by
 unfold VC_impl_isSign signI
 simp only [retP_lit, retP_bool]
 refine ⟨fun h => by simp [h], fun h1 => ⟨fun h => by simp [h], fun h2 => ⟨fun h => by simp [h], fun h3 => by simp [h1, h2, h3]⟩⟩⟩
/-! ### parts -/
theorem okP_app : ∀ {l : List UInt8} (r : List UInt8), l.length % 2 = 0 -> okP (l ++ r) = (okP l && okP r)
 | [], r, _ => by simp [okP]
 | [_], _, h => by simp at h
 | a :: b :: l, r, h => by
  have := okP_app (l := l) r (by simp only [List.length_cons] at h; omega)
  simp only [List.cons_append, okP, this, Bool.and_assoc]
theorem ptS_app : ∀ {l : List UInt8} (r : List UInt8), l.length % 2 = 0 -> ptS (l ++ r) = ptS l ++ ptS r
 | [], r, _ => by simp [ptS]
 | [_], _, h => by simp at h
 | a :: b :: l, r, h => by
  have := ptS_app (l := l) r (by simp only [List.length_cons] at h; omega)
  simp only [List.cons_append, ptS, this]
theorem ptS_len : ∀ l : List UInt8, (ptS l).length = l.length / 2 * 2
 | [] => rfl
 | [_] => by simp [ptS]
 | a :: b :: l => by
  simp only [ptS, List.length_cons, ptS_len l]
  omega
theorem take_two {s : List UInt8} {i : Nat} (h : i + 2 <= s.length) : s.take (i + 2) = s.take i ++ [s.getD i 0, s.getD (i + 1) 0] := by
 rw [show i + 2 = (i + 1) + 1 by omega, List.take_succ_eq_append_getElem (show i + 1 < s.length by omega), List.take_succ_eq_append_getElem (show i < s.length by omega), List.append_assoc]
 simp [List.getD_eq_getElem?_getD, List.getElem?_eq_getElem (show i < s.length by omega), List.getElem?_eq_getElem (show i + 1 < s.length by omega)]
theorem pg_ev {s : List UInt8} {a : Int} (h : pgInv s a) (hlt : a < s.length) : ∃ i : Nat, a = i /\ i % 2 = 0 /\ i + 2 <= s.length /\ s.length <= 19 /\ s.length % 2 = 0 /\ IntKind.wrap .i64 (a + 1) = ((i + 1 : Nat) : Int) /\ IntKind.wrap .i64 (a + 2) = ((i + 2 : Nat) : Int) /\ okP (s.take i) = true := by
 obtain ⟨h0, h1, h2, h3, h4, h5, h6⟩ := h
 refine ⟨a.toNat, by omega, h2, by omega, by omega, h3, ?_, ?_, h6⟩
 ·rw [wrap64_in (by omega)]; omega
 ·rw [wrap64_in (by omega)]; omega
theorem okP_two {s : List UInt8} {i : Nat} (h : i + 2 <= s.length) (he : i % 2 = 0) (ho : okP (s.take i) = true) : okP (s.take (i + 2)) = (inB (((s.getD i 0).toNat : Int) - 48) 0 9 && signB (s.getD (i + 1) 0)) := by
 rw [take_two h, okP_app _ (by rw [List.length_take]; omega), ho]
 simp [okP]
theorem okP_bad {s : List UInt8} {i : Nat} (h : i <= s.length) (he : i % 2 = 0) (ho : okP (s.take i) = false) : progB s = false := by
 have : okP s = false := by
  rw [<- List.take_append_drop i s, okP_app _ (by rw [List.length_take]; omega), ho]; rfl
 unfold progB
 rw [this, Bool.and_false]
theorem pg_next {s : List UInt8} {a : Int} {i : Nat} (h : pgInv s a) (hlt : a < s.length) (ha : a = i) (ho : okP (s.take (i + 2)) = true) : pgInv s ((i + 2 : Nat) : Int) /\ ((s.length : Int) - ((i + 2 : Nat) : Int)).toNat < ((s.length : Int) - a).toNat := by
 obtain ⟨h0, h1, h2, h3, h4, h5, h6⟩ := h
 subst ha
 refine ⟨⟨by omega, by omega, by omega, h3, h4, h5, ?_⟩, by omega⟩
 rw [Int.toNat_natCast]; exact ho
theorem pg_done {s : List UInt8} {a : Int} (h : pgInv s a) (hge : ¬ a < s.length) : progB s = true /\ a.toNat = s.length := by
 obtain ⟨h0, h1, h2, h3, h4, h5, h6⟩ := h
 have e : a.toNat = s.length := by omega
 rw [e, List.take_length] at h6
 refine ⟨?_, e⟩
 unfold progB
 rw [h6, inB_eq.2 (by omega)]
 simp [h3]
theorem pg_odd {s : List UInt8} (h : (Int.tmod (s.length : Int) 2 != 0) = true) : progB s = false := by
 simp only [bne_iff_ne, ne_eq] at h
 rw [Int.tmod_eq_emod_of_nonneg (by omega)] at h
 have : ¬ s.length % 2 = 0 := by omega
 unfold progB
 simp [this]
theorem pg_half {s : List UInt8} (h : (s.length : Int) <= 9223372036854775807) : IntKind.wrap .i64 (Int.tdiv (s.length : Int) 2) = ((s.length / 2 : Nat) : Int) := by
 rw [Int.tdiv_eq_ediv_of_nonneg (by omega), wrap64_in (by omega)]
 omega
theorem pg_size {s : List UInt8} (h : inB ((s.length / 2 : Nat) : Int) 1 9 = false) : progB s = false := by
 unfold progB
 rw [h, Bool.and_false]; rfl
theorem pg_start {s : List UInt8} (h : (Int.tmod (s.length : Int) 2 != 0) = false) (h2 : inB ((s.length / 2 : Nat) : Int) 1 9 = true) : pgInv s 0 := by
 simp only [bne_eq_false_iff_eq] at h
 rw [Int.tmod_eq_emod_of_nonneg (by omega)] at h
 rw [inB_eq] at h2
 exact ⟨by omega, by omega, rfl, by omega, by omega, by omega, rfl⟩
theorem rule_one (c : UInt8) : ruleB [c] = signB c := by simp [ruleB]
theorem drop_two {s : List UInt8} {i : Nat} (h : i + 2 <= s.length) : (s.take (i + 2)).drop (i + 1) = [s.getD (i + 1) 0] := by
 rw [take_two h, List.drop_append, List.drop_of_length_le (by rw [List.length_take]; omega), List.length_take, show i + 1 - min i s.length = 1 by omega]
 rfl
theorem vc_spec_tuGood (s : List UInt8) (h : (s.length : Int) <= 9223372036854775807) : VC_spec_tuGood s (retP (.bool (progB s))) := by
 unfold VC_spec_tuGood
 simp only [at_iff, retP_lit, pg_half h, Bool.not_eq_true', Bool.not_eq_false', true_and, and_true]
 refine ⟨by omega, fun h1 => (pg_odd h1).symm, fun h1 => ⟨by omega, fun h2 => (pg_size h2).symm, fun h2 => ⟨pg_start h1 h2, fun a ha => ⟨fun hc => ?_, fun hc => ?_⟩⟩⟩⟩
 ·have hc := of_decide_eq_true hc
  obtain ⟨i, hi, he, hl, _, _, e1, e2, ho⟩ := pg_ev ha hc
  have hbad : okP (s.take (i + 2)) = false -> progB s = false := fun hb => okP_bad hl (by omega) hb
  have hok := okP_two hl he ho
  rw [e1, e2]
  have hia : a.toNat = i := by omega
  rw [hia]
  simp only [Int.toNat_natCast, drop_two hl, rule_one]
  have hgo := fun h => pg_next ha hc hi h
  have h0 : (0 : Int) <= a /\ a < (s.length : Int) := ⟨by omega, hc⟩
  refine ⟨h0, fun h3 => ?_, fun h3 => ⟨h0, fun h4 => ?_, fun h4 => ⟨⟨by omega, by omega, by omega⟩, fun h5 => ?_, fun h5 => ?_⟩⟩⟩
  ·have h3 := of_decide_eq_true h3
   refine (hbad ?_).symm
   rw [hok, inB_ne.2 (by omega)]; rfl
  ·have h4 := of_decide_eq_true h4
   refine (hbad ?_).symm
   rw [hok, inB_ne.2 (by omega)]; rfl
  ·refine (hbad ?_).symm
   rw [hok, h5, Bool.and_false]
  ·have h3 := of_decide_eq_false h3
   have h4 := of_decide_eq_false h4
   exact hgo (by rw [hok, h5, inB_eq.2 (by omega)]; rfl)
 ·exact (pg_done ha (of_decide_eq_false hc)).1.symm
/-! ### ends of calls -/
theorem retG_pn {sh : List Sh} {c : List Sc} {e : TypeId} {u : Nat} {b : Bool} {J : List Blk} (hb : b = false) (hu : u = 0) (hc : c = []) :
  retG 0 (.tup [.row 0 u, .bool b]) [⟨.recs sh c, e, .rows 2⟩] (.tup [.raw (.slice none 0 0), .lit false]) J := by
 subst hb; subst hu; subst hc
 unfold retG leSel leSelBy autoSel
 simp [pairsL, pairsV, idPairs, pairsIn, selOf, lookN, findSel, selMem, chkB, nodupSel, prefSel, leSt, leL, leV, nilToL, V.nilTo, isNilS, isGhost, selL, V.sel, Cells.none0, Kind.isRow, Blk.isOwnMat, leMem, leCells, memUnder, underL, V.under]
 trivial
theorem retG_py {sh : List Sh} {c c' : List Sc} {e : TypeId} {u u' : Nat} {b : Bool} {J : List Blk} (hb : b = true) (hu : u' = u) (hc : c' = c) :
  retG 0 (.tup [.row 0 u, .bool b]) [⟨.recs sh c, e, .rows 2⟩] (.tup [.row 0 u', .lit true]) (⟨.recs sh c', e, .rows 2⟩ :: J) := by
 subst hb; subst hu; subst hc
 unfold retG leSel leSelBy autoSel
 simp [pairsL, pairsV, idPairs, pairsIn, selOf, lookN, findSel, selMem, chkB, nodupSel, hasSel, prefSel, leSt, leL, leV, nilToL, V.nilTo, isNilS, isGhost, selL, V.sel, Cells.selN, leMem, leCells, memUnder, underL, V.under]
 trivial
theorem parts_no {s : List UInt8} (h : progB s = false) : partsN s = 0 /\ partsC s = [] := by unfold partsN partsC; rw [h]; exact ⟨rfl, rfl⟩
theorem parts_yes {s : List UInt8} (h : progB s = true) : partsN s = s.length / 2 /\ partsC s = ptS s := by unfold partsN partsC; rw [h]; exact ⟨rfl, rfl⟩
theorem ptS_two {s : List UInt8} {i : Nat} (h : i + 2 <= s.length) (he : i % 2 = 0) : ptS (s.take (i + 2)) = ptS (s.take i) ++ [⟨((s.getD i 0).toNat : Int) - 48, []⟩, ⟨((s.getD (i + 1) 0).toNat : Int), []⟩] := by
 rw [take_two h, ptS_app _ (by rw [List.length_take]; omega)]
 rfl
theorem vc_impl_partsOf (s : List UInt8) (h : (s.length : Int) <= 9223372036854775807) : VC_impl_partsOf s (retG 0 (.tup [.row 0 (partsN s), .bool (progB s)]) [⟨.recs [.int .i64, .int .u8] (partsC s), 84, .rows 2⟩]) := by
 unfold VC_impl_partsOf
 simp only [at_iff, pg_half h, Bool.not_eq_true', Bool.not_eq_false', true_and, and_true]
 have no : progB s = false -> ∀ J, retG 0 (.tup [.row 0 (partsN s), .bool (progB s)]) [⟨.recs [.int .i64, .int .u8] (partsC s), 84, .rows 2⟩] (.tup [.raw (.slice none 0 0), .lit false]) J := fun hn J => retG_pn hn (parts_no hn).1 (parts_no hn).2
 refine ⟨by omega, fun h1 => no (pg_odd h1) _, fun h1 => ⟨by omega, fun h2 => no (pg_size h2) _, fun h2 => ⟨by omega, ?_⟩⟩⟩
 have hst := pg_start h1 h2
 rw [inB_eq] at h2
 refine ⟨⟨by omega, by omega, by omega⟩, by rfl, hst, fun a ha => ⟨fun hc => ?_, fun hc => ?_⟩⟩
 ·have hc := of_decide_eq_true hc
  obtain ⟨i, hi, he, hl, _, _, e1, e2, ho⟩ := pg_ev ha hc
  have hbad : okP (s.take (i + 2)) = false -> progB s = false := fun hb => okP_bad hl (by omega) hb
  have hok := okP_two hl he ho
  rw [e1, e2]
  have hia : a.toNat = i := by omega
  rw [hia]
  simp only [Int.toNat_natCast, signI_toNat, List.length_take, ptS_len, ptS_two hl he]
  have hgo := fun h => pg_next ha hc hi h
  refine ⟨⟨by omega, hc⟩, ⟨by omega, byte_lt _⟩, ⟨by omega, by omega⟩, fun h3 => ?_, fun h3 => ⟨fun h4 => ?_, fun h4 => ?_⟩⟩
  ·refine no (hbad ?_) _
   rw [hok, h3]; rfl
  ·refine no (hbad ?_) _
   rw [hok, h4, Bool.and_false]
  ·refine ⟨⟨⟨by omega, by simp⟩, by simp [posM], by omega⟩, ⟨by omega, rfl⟩, hgo (by rw [hok, h3, h4]; rfl)⟩
 ·obtain ⟨hd, he⟩ := pg_done ha (of_decide_eq_false hc)
  rw [he, List.take_length]
  exact retG_py hd (parts_yes hd).1.symm (parts_yes hd).2.symm
theorem vc_impl_IsProgram (s : List UInt8) (h : (s.length : Int) <= 9223372036854775807) : VC_impl_IsProgram s (retP (.bool (progB s))) := ⟨⟨h⟩, (retP_bool _ _).2 rfl⟩
theorem vc_spec_IsDesk (dwRule : List UInt8) (dwWidth dwHeight : Int) (dwCells : List UInt8) (dwX dwY dwWay : Int) (dkRule : List UInt8) (dkWidth dkHeight : Int) (dkCells : List UInt8) (dkX dkY dkWay : Int) (dProgram : List UInt8) (h : (dProgram.length : Int) <= 9223372036854775807) : VC_spec_IsDesk dwRule dwWidth dwHeight dwCells dwX dwY dwWay dkRule dkWidth dkHeight dkCells dkX dkY dkWay dProgram
  (retP (.bool (goodB ⟨dwRule, dwWidth, dwHeight, dwCells, dwX, dwY, dwWay⟩ && goodB ⟨dkRule, dkWidth, dkHeight, dkCells, dkX, dkY, dkWay⟩ && progB dProgram))) := by
 unfold VC_spec_IsDesk
 generalize goodB ⟨dwRule, dwWidth, dwHeight, dwCells, dwX, dwY, dwWay⟩ = u
 generalize goodB ⟨dkRule, dkWidth, dkHeight, dkCells, dkX, dkY, dkWay⟩ = v
 cases u <;> cases v <;> simp [at_iff, retP_bool, retP_lit, h]
theorem vc_impl_IsDesk (dwRule : List UInt8) (dwWidth dwHeight : Int) (dwCells : List UInt8) (dwX dwY dwWay : Int) (dkRule : List UInt8) (dkWidth dkHeight : Int) (dkCells : List UInt8) (dkX dkY dkWay : Int) (dProgram : List UInt8) (h : (dProgram.length : Int) <= 9223372036854775807) : VC_impl_IsDesk dwRule dwWidth dwHeight dwCells dwX dwY dwWay dkRule dkWidth dkHeight dkCells dkX dkY dkWay dProgram
  (retP (.bool (goodB ⟨dwRule, dwWidth, dwHeight, dwCells, dwX, dwY, dwWay⟩ && goodB ⟨dkRule, dkWidth, dkHeight, dkCells, dkX, dkY, dkWay⟩ && progB dProgram))) := by
 unfold VC_impl_IsDesk
 generalize goodB ⟨dwRule, dwWidth, dwHeight, dwCells, dwX, dwY, dwWay⟩ = u
 generalize goodB ⟨dkRule, dkWidth, dkHeight, dkCells, dkX, dkY, dkWay⟩ = v
 cases u <;> cases v <;> simp [at_iff, retP_bool, retP_lit, h]
end Go.Vi
