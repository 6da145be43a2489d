/- Tables told: the conditions hold. -/
import Derived.Test.YtpkokghbkamelaaDoorTTVc
import Derived.Test.YtpkokghbkamelaaDoorTTSpec
namespace Go.Vi
set_option linter.unusedSimpArgs false
theorem byte_eqI (c : UInt8) (n : Nat) (hn : n < 256) : ((c.toNat : Int) == (n : Int)) = (c == UInt8.ofNat n) := by
 rw [Bool.eq_iff_iff]
 simp only [beq_iff_eq, <- UInt8.toNat_inj, UInt8.toNat_ofNat']
 omega
theorem byte76 (c : UInt8) : ((c.toNat : Int) == (76 : Int)) = (c == 76) := byte_eqI c 76 (by omega)
theorem byte82 (c : UInt8) : ((c.toNat : Int) == (82 : Int)) = (c == 82) := byte_eqI c 82 (by omega)
theorem take_succ_getD {l : List UInt8} {i : Nat} (h : i < l.length) : l.take (i + 1) = l.take i ++ [l.getD i 0] := by
 rw [List.take_succ_eq_append_getElem h]
 simp [List.getD_eq_getElem?_getD, List.getElem?_eq_getElem h]
theorem drop_getD {l : List UInt8} {i : Nat} (h : i < l.length) : l.drop i = l.getD i 0 :: l.drop (i + 1) := by
 rw [List.drop_eq_getElem_cons h]
 simp [List.getD_eq_getElem?_getD, List.getElem?_eq_getElem h]
theorem oth76 {c : UInt8} (h : (c == 76) = true) : oth c = 82 := by unfold oth; rw [h]; rfl
theorem oth82 {c : UInt8} (h : (c == 76) = false) (h' : (c == 82) = true) : oth c = 76 := by unfold oth; rw [h, h']; rfl
theorem oth_no {c : UInt8} (h : (c == 76) = false) (h' : (c == 82) = false) : oth c = c := by unfold oth; rw [h, h']; rfl
theorem oth_take {s : List UInt8} {i : Nat} (h : i < s.length) : othR (s.take (i + 1)) = othR (s.take i) ++ [oth (s.getD i 0)] := by
 rw [take_succ_getD h]; simp [othR]
theorem othR_len (s : List UInt8) : (othR s).length = s.length := by simp [othR]
theorem othInv_step {s : List UInt8} {i : Int} (h : othInv s i) (hi : i < s.length) : IntKind.wrap .i64 (i + 1) = i + 1 /\ (i + 1).toNat = i.toNat + 1 /\ i.toNat < s.length /\ othInv s (i + 1) /\ ((s.length : Int) - (i + 1)).toNat < ((s.length : Int) - i).toNat := by
 obtain ⟨h0, h1, h2⟩ := h
 exact ⟨wrap64_in (by omega), by omega, by omega, ⟨by omega, by omega, h2⟩, by omega⟩
theorem vc_spec_woOther (s : List UInt8) (h : s.length <= 1000) : VC_spec_woOther s (retP (.str (othR s))) := by
 unfold VC_spec_woOther
 simp only [at_iff, retP_str, and_true, true_and, decide_eq_true_eq, decide_eq_false_iff_not, byte76, byte82]
 refine ⟨by simp [othR], ⟨by omega, by omega, h⟩, fun i hi => ⟨fun hlt => ?_, fun hge => ?_⟩⟩
 ·obtain ⟨hw, ht, hl, hs, hm⟩ := othInv_step hi hlt
  have hlen : (othR (s.take i.toNat)).length <= 1000 := by rw [othR_len, List.length_take]; omega
  have h0 := hi.1
  rw [hw, ht]
  refine ⟨⟨h0, hlt⟩, fun h1 => ?_, fun h1 => ⟨fun h2 => ?_, fun h2 => ?_⟩⟩
  ·refine ⟨by simp only [List.length_cons, List.length_nil]; omega, ?_, hs, hm⟩
   rw [oth_take hl, oth76 h1]
  ·refine ⟨by simp only [List.length_cons, List.length_nil]; omega, ?_, hs, hm⟩
   rw [oth_take hl, oth82 h1 h2]
  ·have hd : (s.take (i.toNat + 1)).drop i.toNat = [s.getD i.toNat 0] := by
    rw [take_succ_getD hl, List.drop_append_of_le_length (by rw [List.length_take]; omega), List.drop_of_length_le (by rw [List.length_take]; omega), List.nil_append]
   rw [hd]
   refine ⟨⟨h0, by omega, by omega⟩, by simp only [List.length_cons, List.length_nil]; omega, ?_, hs, hm⟩
   rw [oth_take hl, oth_no h1 h2]
 ·rw [List.take_of_length_le (by have := hi.1; omega)]
theorem othRow_len {s : List UInt8} {i : Int} : (othRow s i).length = s.length := by
 unfold othRow; rw [List.length_append, othR_len, List.length_take, List.length_drop]; omega
theorem othRow_cut {s : List UInt8} {i : Nat} (h : i < s.length) : othRow s i = othR (s.take i) ++ s.getD i 0 :: s.drop (i + 1) := by
 unfold othRow; rw [Int.toNat_natCast, drop_getD h]
theorem take_l {s : List UInt8} {i : Nat} (h : i < s.length) : (othR (s.take i)).length = i := by rw [othR_len, List.length_take]; omega
theorem othRow_get {s : List UInt8} {i : Nat} (h : i < s.length) : (othRow s i).getD i 0 = s.getD i 0 := by
 rw [othRow_cut h, List.getD_eq_getElem?_getD, List.getElem?_append_right (by rw [take_l h]; exact Nat.le_refl _), take_l h, Nat.sub_self]
 rfl
theorem othRow_set {s : List UInt8} {i : Nat} (h : i < s.length) : (othRow s i).set i (oth (s.getD i 0)) = othRow s ((i : Int) + 1) := by
 rw [othRow_cut h, List.set_append_right _ _ (by rw [take_l h]; exact Nat.le_refl _), take_l h, Nat.sub_self]
 unfold othRow
 rw [show ((i : Int) + 1).toNat = i + 1 by omega, oth_take h]
 simp
theorem othRow_stay {s : List UInt8} {i : Nat} (h : i < s.length) (ho : oth (s.getD i 0) = s.getD i 0) : othRow s i = othRow s ((i : Int) + 1) := by
 rw [<- othRow_set h, ho]
 rw [othRow_cut h, List.set_append_right _ _ (by rw [take_l h]; exact Nat.le_refl _), take_l h, Nat.sub_self]
 rfl
theorem vc_impl_exchanged (s : List UInt8) (h : s.length <= 1000) : VC_impl_exchanged s (retP (.str (othR s))) := by
 unfold VC_impl_exchanged
 simp only [at_iff, retP_str, and_true, true_and, decide_eq_true_eq, decide_eq_false_iff_not, byte76, byte82, othRow_len]
 refine ⟨by omega, by simp [othRow, othR], ⟨by omega, by omega, h⟩, fun i hi => ⟨fun hlt => ?_, fun hge => ?_⟩⟩
 ·obtain ⟨hw, ht, hl, hs, hm⟩ := othInv_step hi hlt
  have h0 := hi.1
  rw [hw]
  obtain ⟨n, rfl⟩ : ∃ n : Nat, i = n := ⟨i.toNat, by omega⟩
  rw [Int.toNat_natCast] at *
  rw [othRow_get hl]
  refine ⟨⟨h0, hlt⟩, hl, fun h1 => ⟨⟨h0, hlt⟩, ⟨hl, by omega, by omega⟩, ?_, hs, hm⟩, fun h1 => ⟨fun h2 => ⟨⟨h0, hlt⟩, ⟨hl, by omega, by omega⟩, ?_, hs, hm⟩, fun h2 => ⟨othRow_stay hl (oth_no h1 h2), hs, hm⟩⟩⟩
  ·rw [<- othRow_set hl, oth76 h1]; rfl
  ·rw [<- othRow_set hl, oth82 h1 h2]; rfl
 ·refine ⟨by omega, ?_⟩
  have h0 := hi.1
  rw [List.take_of_length_le (by rw [othRow_len]; omega)]
  unfold othRow
  rw [List.take_of_length_le (by omega), List.drop_of_length_le (by omega), List.append_nil]
/-! ### marks -/
theorem digF_any : ∀ (f g n : Nat) (l : List UInt8), n <= f -> n <= g -> digF f n l = digF g n l
 | 0, 0, _, _, _, _ => rfl
 | 0, g + 1, n, l, h, _ => by
  have : n = 0 := by omega
  subst this; rfl
 | f + 1, 0, n, l, _, h => by
  have : n = 0 := by omega
  subst this; rfl
 | f + 1, g + 1, n, l, h1, h2 => by
  unfold digF
  by_cases hn : n = 0
  ·rw [decide_eq_true hn]; rfl
  ·rw [decide_eq_false hn]
   exact digF_any f g (n / 10) _ (by omega) (by omega)
theorem digF_step {n : Nat} (h : 0 < n) (l : List UInt8) : digF n n l = digF (n / 10) (n / 10) (UInt8.ofNat (48 + n % 10) :: l) := by
 obtain ⟨m, rfl⟩ : ∃ m, n = m + 1 := ⟨n - 1, by omega⟩
 show (bif decide (m + 1 = 0) then l else digF m ((m + 1) / 10) (UInt8.ofNat (48 + (m + 1) % 10) :: l)) = _
 rw [decide_eq_false (by omega)]
 exact digF_any _ _ _ _ (by omega) (Nat.le_refl _)
theorem u8_in {x : Int} (h : 0 <= x /\ x <= 255) : IntKind.wrap .u8 x = x := IntWalk.u8_in _ (by omega)
theorem vc_laws_markText (k : Int) (h : 0 <= k /\ k <= 100000000) : VC_laws_markText k (retP (.str (mtx k))) := by
 unfold VC_laws_markText
 simp only [at_iff, true_and, and_true]
 refine ⟨fun h0 => ?_, fun h0 => ⟨⟨h.1, by simp; omega, rfl⟩, fun q hq => ⟨fun hc => ?_, fun hc => ?_⟩⟩⟩
 ·unfold mtx; rw [h0]; exact (retP_str _ _).2 rfl
 ·have hc := of_decide_eq_true hc
  obtain ⟨q, l⟩ := q
  obtain ⟨g0, g1, g2⟩ := hq
  dsimp only at *
  obtain ⟨m, rfl⟩ : ∃ m : Nat, q = m := ⟨q.toNat, by omega⟩
  have e1 : Int.tmod (m : Int) 10 = ((m % 10 : Nat) : Int) := rfl
  have e2 : Int.tdiv (m : Int) 10 = ((m / 10 : Nat) : Int) := rfl
  rw [e1, e2, wrap64_in (x := 48 + ((m % 10 : Nat) : Int)) (by omega), wrap64_in (x := ((m / 10 : Nat) : Int)) (by omega), u8_in (by omega)]
  have e3 : (48 + ((m % 10 : Nat) : Int)).toNat = 48 + m % 10 := by omega
  simp only [List.map_cons, List.map_nil, e3, List.take_succ_cons, List.take_zero, List.cons_append, List.nil_append, List.length_cons, List.length_nil, Int.toNat_natCast] at *
  refine ⟨by decide, fun x hx => ?_, by omega, by omega, by decide, ⟨by omega, ?_, ?_⟩, by omega⟩
  ·rw [List.mem_singleton] at hx; omega
  ·simp only [List.length_cons]; omega
  ·show digF (m / 10) (m / 10) _ = _
   rw [<- digF_step (by omega)]
   exact g2
 ·have hc := of_decide_eq_false hc
  have h0 := of_decide_eq_false h0
  obtain ⟨q, l⟩ := q
  obtain ⟨g0, g1, g2⟩ := hq
  dsimp only at *
  have : q = 0 := by omega
  subst this
  have g2 : l = digF k.toNat k.toNat [] := g2
  refine ⟨by simp; omega, ?_⟩
  unfold mtx
  rw [decide_eq_false (by omega), g2]
  exact (retP_str _ _).2 rfl
theorem mkR_len (k : Int) (n : Nat) : (mkR k n).length = n := by unfold mkR; rw [List.length_map, List.length_range]
theorem mkR_succ (k : Int) (n : Nat) : mkR k (n + 1) = mkR k n ++ [⟨k + (3 * n : Nat), mtx (k + (3 * n : Nat) + 1), k + (3 * n : Nat) + 2⟩] := by
 unfold mkR; rw [List.range_succ, List.map_append]; rfl
theorem mkR_get {k : Int} {n j : Nat} (h : j < n) : (mkR k n).getD j default = ⟨k + (3 * j : Nat), mtx (k + (3 * j : Nat) + 1), k + (3 * j : Nat) + 2⟩ := by
 unfold mkR
 rw [List.getD_eq_getElem?_getD, List.getElem?_map, List.getElem?_range h]
 rfl
theorem mkRow_len {l : List Row3} {k : Int} {j : Nat} (h : j <= l.length) : (mkRow l k j).length = l.length := by
 unfold mkRow; rw [List.length_append, mkR_len, List.length_drop]; omega
theorem mkRow_set {l : List Row3} {k : Int} {j : Nat} (h : j < l.length) :
  List.set (List.set (List.set (flat3 (mkRow l k j)) (j * 3 + 0) ⟨k + (3 * j : Nat), []⟩) (j * 3 + 1) ⟨0, mtx (k + (3 * j : Nat) + 1)⟩) (j * 3 + 2) ⟨k + (3 * j : Nat) + 2, []⟩ = flat3 (mkRow l k (j + 1)) := by
 unfold mkRow
 have hl : (flat3 (mkR k j)).length = j * 3 := by rw [flat3_length, mkR_len]
 rw [mkR_succ, flat3_append, flat3_append, flat3_append, drop_cons h default]
 generalize flat3 (mkR k j) = A at hl
 simp only [flat3]
 rw [List.set_append_right _ _ (by omega), hl, show j * 3 + 0 - j * 3 = 0 by omega, List.set_cons_zero, List.set_append_right _ _ (by omega), hl, show j * 3 + 1 - j * 3 = 1 by omega, List.set_append_right _ _ (by omega), hl, show j * 3 + 2 - j * 3 = 2 by omega]
 simp
theorem retG_r1m {q r : Int} {c d : List Sc} {sh : List Sh} {e : TypeId} {k : Kind} {J : List Blk} (h : q = r) (hd : d = c) : retG 1 (.int .i64 r) [⟨.recs sh c, e, k⟩] (.int .i64 q) (⟨.recs sh d, e, k⟩ :: J) := by
 subst h; subst hd
 unfold retG leSel leSelBy autoSel
 simp [pairsL, pairsV, idPairs, pairsIn, selOf, lookN, selMem, chkB, nodupSel, hasSel, prefSel, leSt, leL, leV, nilToL, V.nilTo, selL, V.sel, Cells.selN, leMem, leCells, memUnder, underL, V.under]
theorem sh3_at (j : Nat) : shAt [Sh.int .i64, Sh.str, Sh.int .i64] (j * 3 + 0) = Sh.int .i64 /\ shAt [Sh.int .i64, Sh.str, Sh.int .i64] (j * 3 + 1) = Sh.str /\ shAt [Sh.int .i64, Sh.str, Sh.int .i64] (j * 3 + 2) = Sh.int .i64 := by
 refine ⟨?_, ?_, ?_⟩
 ·show ([Sh.int .i64, Sh.str, Sh.int .i64] : List Sh).getD ((j * 3 + 0) % 3) .str = _
  rw [show (j * 3 + 0) % 3 = 0 by omega]; rfl
 ·show ([Sh.int .i64, Sh.str, Sh.int .i64] : List Sh).getD ((j * 3 + 1) % 3) .str = _
  rw [show (j * 3 + 1) % 3 = 1 by omega]; rfl
 ·show ([Sh.int .i64, Sh.str, Sh.int .i64] : List Sh).getD ((j * 3 + 2) % 3) .str = _
  rw [show (j * 3 + 2) % 3 = 2 by omega]; rfl
theorem vc_laws_markRowS (k : Int) (n : Nat) (c : List Sc) (h : is3 c n /\ n <= 2000000 /\ 0 <= k /\ k <= 1000000) : VC_laws_markRowS k n c (retG 1 (.int .i64 (k + (3 * n : Nat))) [⟨.recs [.int .i64, .str, .int .i64] (flat3 (mkR k n)), 96, .rows 3⟩]) := by
 obtain ⟨⟨hc, hn⟩, h2, h3, h4⟩ := h
 unfold VC_laws_markRowS
 generalize rows3 c = l at hc hn ⊢
 subst hc; subst hn
 simp only [at_iff, true_and, and_true]
 refine ⟨⟨by omega, rfl⟩, ⟨Int.le_refl _, by omega⟩, fun j hj => ⟨fun hd => ?_, fun hd => ?_⟩⟩
 ·have hd := of_decide_eq_true hd
  obtain ⟨g1, g2⟩ := hj
  obtain ⟨m, rfl⟩ : ∃ m : Nat, j = m := ⟨j.toNat, by omega⟩
  have hm : m < l.length := by omega
  have e0 : k + 3 * (m : Int) = k + (3 * m : Nat) := by omega
  have e1 : IntKind.wrap .i64 (k + (3 * m : Nat) + 1) = k + (3 * m : Nat) + 1 := wrap64_in (by omega)
  have e2 : IntKind.wrap .i64 (k + (3 * m : Nat) + 1 + 1) = k + (3 * m : Nat) + 2 := by rw [wrap64_in (by omega)]; omega
  have e3 : IntKind.wrap .i64 (k + (3 * m : Nat) + 2 + 1) = k + 3 * ((m : Int) + 1) := by rw [wrap64_in (by omega)]; omega
  have e4 : IntKind.wrap .i64 ((m : Int) + 1) = (m : Int) + 1 := wrap64_in (by omega)
  have hl : (flat3 (mkRow l k m)).length = l.length * 3 := by rw [flat3_length, mkRow_len (by omega)]
  obtain ⟨s0, s1, s2⟩ := sh3_at m
  have hset := mkRow_set (k := k) hm
  simp only [Int.toNat_natCast, e0, e1, e2, e3, e4, show ((m : Int) + 1).toNat = m + 1 by omega, List.length_set, hl, hset]
  refine ⟨⟨by omega, hd⟩, ⟨by omega, s0⟩, ⟨by omega, by omega⟩, ⟨by omega, hd⟩, ⟨by omega, s1⟩, ⟨by omega, hd⟩, ⟨by omega, s2⟩, ⟨trivial, trivial⟩, ⟨by omega, by omega⟩, by omega⟩
 ·have hd := of_decide_eq_false hd
  obtain ⟨g1, g2⟩ := hj
  refine retG_r1m (by omega) ?_
  rw [show j.toNat = l.length by omega]
  unfold mkRow
  rw [List.drop_length, List.append_nil]
theorem vc_laws_markTable (k s i : Int) (n : Nat) (c : List Sc) (h : is3 c n /\ n <= 2000000 /\ 0 <= k /\ k <= 1000000) : VC_laws_markTable k s i n c (retG 1 (.int .i64 (k + (3 * n : Nat))) [⟨.recs [.int .i64, .str, .int .i64] (flat3 (mkR k n)), 96, .rows 3⟩]) :=
 ⟨⟨h⟩, retG_r1i rfl⟩
theorem vc_laws_heldRowS (k : Int) (n : Nat) (c : List Sc) (h : is3 c n /\ n <= 2000000 /\ 0 <= k /\ k <= 1000000) : VC_laws_heldRowS k n c (retG 1 (.int .i64 (bif decide (rows3 c = mkR k n) then k + (3 * n : Nat) else -1)) [⟨.recs [.int .i64, .str, .int .i64] c, 96, .rows 3⟩]) := by
 obtain ⟨⟨hc, hn⟩, h2, h3, h4⟩ := h
 unfold VC_laws_heldRowS
 generalize rows3 c = l at hc hn ⊢
 subst hc; subst hn
 simp only [at_iff, true_and, and_true]
 refine ⟨by omega, ⟨⟨Int.le_refl _, by omega⟩, rfl⟩, fun j hj => ⟨fun hd => ?_, fun hd => ?_⟩⟩
 ·have hd := of_decide_eq_true hd
  obtain ⟨⟨g1, g2⟩, g3⟩ := hj
  obtain ⟨m, rfl⟩ : ∃ m : Nat, j = m := ⟨j.toNat, by omega⟩
  have hm : m < l.length := by omega
  have e0 : k + 3 * (m : Int) = k + (3 * m : Nat) := by omega
  have e1 : IntKind.wrap .i64 (k + (3 * m : Nat) + 1) = k + (3 * m : Nat) + 1 := wrap64_in (by omega)
  have e2 : IntKind.wrap .i64 (k + (3 * m : Nat) + 1 + 1) = k + (3 * m : Nat) + 2 := by rw [wrap64_in (by omega)]; omega
  have e3 : IntKind.wrap .i64 (k + (3 * m : Nat) + 2 + 1) = k + 3 * ((m : Int) + 1) := by rw [wrap64_in (by omega)]; omega
  have e4 : IntKind.wrap .i64 ((m : Int) + 1) = (m : Int) + 1 := wrap64_in (by omega)
  have hl : (flat3 l).length = l.length * 3 := flat3_length l
  obtain ⟨s0, s1, s2⟩ := sh3_at m
  obtain ⟨f0, f1, f2⟩ := flat3_get l m ⟨0, []⟩ hm
  have no : l.getD m default ≠ ⟨k + (3 * m : Nat), mtx (k + (3 * m : Nat) + 1), k + (3 * m : Nat) + 2⟩ -> decide (l = mkR k l.length) = false := fun hne => decide_eq_false fun he => hne (by
   have := mkR_get (k := k) hm
   rw [<- he] at this
   exact this)
  rw [Int.toNat_natCast] at g3
  simp only [Int.toNat_natCast, e0, e1, e2, e3, e4, hl, show (flat3 l).getD (m * 3 + 0) ⟨0, []⟩ = _ from f0, f1, show (flat3 l).getD (m * 3 + 2) ⟨0, []⟩ = _ from f2]
  refine ⟨⟨by omega, hd⟩, ⟨by omega, s0⟩, fun t0 => retG_r1i ?_, fun t0 => ⟨⟨by omega, hd⟩, ⟨by omega, s1⟩, ⟨by omega, by omega⟩, fun t1 => retG_r1i ?_, fun t1 => ⟨⟨by omega, hd⟩, ⟨by omega, s2⟩, fun t2 => retG_r1i ?_, fun t2 => ⟨trivial, ⟨⟨by omega, by omega⟩, ?_⟩, by omega⟩⟩⟩⟩
  ·rw [no fun he => by rw [he] at t0; simp at t0]; rfl
  ·rw [no fun he => by rw [he] at t1; simp at t1]; rfl
  ·rw [no fun he => by rw [he] at t2; simp at t2]; rfl
  ·rw [show ((m : Int) + 1).toNat = m + 1 by omega, take_snoc hm default, g3, mkR_succ]
   simp only [bne_eq_false_iff_eq, Bool.not_eq_false', beq_iff_eq] at t0 t1 t2
   have hr : l.getD m default = ⟨(l.getD m default).a, (l.getD m default).t, (l.getD m default).b⟩ := rfl
   congr 2
   exact hr.trans (by rw [t0, t1, t2])
 ·have hd := of_decide_eq_false hd
  obtain ⟨⟨g1, g2⟩, g3⟩ := hj
  rw [show j.toNat = l.length by omega, List.take_length] at g3
  refine retG_r1i ?_
  rw [decide_eq_true g3]
  show _ = k + ((3 * l.length : Nat) : Int)
  omega
theorem vc_laws_heldTable (k s i : Int) (n : Nat) (c : List Sc) (h : is3 c n /\ n <= 2000000 /\ 0 <= k /\ k <= 1000000) : VC_laws_heldTable k s i n c (retG 1 (.int .i64 (bif decide (rows3 c = mkR k n) then k + (3 * n : Nat) else -1)) [⟨.recs [.int .i64, .str, .int .i64] c, 96, .rows 3⟩]) := by
 unfold VC_laws_heldTable
 refine ⟨⟨h⟩, fun h1 => retG_r1i ?_, fun h1 => retG_r1i rfl⟩
 have h1 := of_decide_eq_true h1
 cases hb : decide (rows3 c = mkR k n) with
 | false => rfl
 | true =>
  rw [hb] at h1
  have h1 : k + ((3 * n : Nat) : Int) < 0 := h1
  omega
/-! ### copies -/
theorem retG_cl {c d : List Sc} {sh : List Sh} {e : TypeId} {k : Kind} {n m : Nat} {b0 : Blk} (hd : d = c) (hm : m = n) : retG 1 (.row 1 n) [⟨.recs sh c, e, k⟩, ⟨.recs sh c, e, .rows 3⟩] (.row 2 m) [⟨.recs sh c, e, k⟩, b0, ⟨.recs sh d, e, .rows 3⟩] := by
 subst hd; subst hm
 unfold retG leSel leSelBy autoSel
 simp [pairsL, pairsV, idPairs, pairsIn, selOf, lookN, findSel, selMem, chkB, nodupSel, hasSel, prefSel, leSt, leL, leV, nilToL, V.nilTo, isNilS, isGhost, selL, V.sel, Cells.selN, leMem, leCells, memUnder, underL, V.under]
 try trivial
theorem retG_ct {s i : Int} {c : List Sc} {sh : List Sh} {e : TypeId} {n : Nat} {b0 b1 : Blk} : retG 1 (.agg [.int .i64 s, .int .i64 i, .row 1 n]) [⟨.recs sh c, e, .rows 3⟩, ⟨.recs sh c, e, .rows 3⟩] (.agg [.int .i64 s, .int .i64 i, .row 3 n]) [⟨.recs sh c, e, .rows 3⟩, b0, b1, ⟨.recs sh c, e, .rows 3⟩] := by
 unfold retG leSel leSelBy autoSel
 simp [pairsL, pairsV, idPairs, pairsIn, selOf, lookN, findSel, selMem, chkB, nodupSel, hasSel, prefSel, leSt, leL, leV, nilToL, V.nilTo, isNilS, isGhost, selL, V.sel, Cells.selN, leMem, leCells, memUnder, underL, V.under]
 try trivial
theorem is3_len {c : List Sc} {n : Nat} (h : is3 c n) : c.length = n * 3 := by
 obtain ⟨h1, h2⟩ := h
 rw [h1, flat3_length, h2]
theorem vc_impl_Row (n : Nat) (c : List Sc) (h : is3 c n /\ n <= 2000000 /\ 1 <= n) : VC_impl_Row n c (retG 1 (.row 1 n) [⟨.recs [.int .i64, .str, .int .i64] c, 96, .rows 3⟩, ⟨.recs [.int .i64, .str, .int .i64] c, 96, .rows 3⟩]) := by
 unfold VC_impl_Row
 have hl := is3_len h.1
 simp only [at_iff, true_and, and_true]
 refine ⟨by omega, ⟨⟨by simp, by omega⟩, by omega, by omega⟩, retG_cl ?_ (by omega)⟩
 rw [List.nil_append, List.take_of_length_le (by omega)]
theorem vc_impl_copied (s i : Int) (n : Nat) (c : List Sc) (h : is3 c n /\ n <= 2000000 /\ 1 <= n) : VC_impl_copied s i n c (retG 1 (.agg [.int .i64 s, .int .i64 i, .row 1 n]) [⟨.recs [.int .i64, .str, .int .i64] c, 96, .rows 3⟩, ⟨.recs [.int .i64, .str, .int .i64] c, 96, .rows 3⟩]) := by
 unfold VC_impl_copied
 exact ⟨⟨h⟩, retG_ct⟩
/-! ### tables mirrored -/
theorem tab_bd {s i : Int} {l : List Row3} (h : tabB s i l = true) : 1 <= l.length /\ l.length <= 16 /\ ∀ r ∈ l, r.t.length = 1 := by
 unfold tabB at h
 simp only [Bool.and_eq_true, decide_eq_true_eq] at h
 obtain ⟨⟨⟨h1, h2⟩, h3⟩, h4⟩ := h
 have hp := inB_eq.1 h1
 have hq := inB_eq.1 h2
 have h16 := si_bd h1 h2
 have hge : 1 <= s * i := Int.le_trans (show (1 : Int) <= 1 * 1 by omega) (Int.mul_le_mul hp.1 hq.1 (by omega) (by omega))
 refine ⟨by omega, by omega, fun r hr => ?_⟩
 have h5 := List.all_eq_true.1 h4 r hr
 unfold rowG tsB at h5
 simp only [Bool.and_eq_true, decide_eq_true_eq] at h5
 exact h5.1.2.1
theorem mr_no {g : Bool} (h : g = false) (l : List Row3) : mrR g l = [] := by subst h; rfl
theorem mr_yes {g : Bool} (h : g = true) (l : List Row3) : mrR g l = l.map mr1 := by subst h; rfl
theorem retG_nomi {c : List Sc} {sh : List Sh} {e f : TypeId} {b0 b1 : Blk} : retG 1 (.tup [.agg [.int .i64 0, .int .i64 0, .row 1 0], .bool false]) [⟨.recs sh c, e, .rows 3⟩, ⟨.recs sh [], f, .rows 3⟩] (.tup [.agg [.int .i64 0, .int .i64 0, .raw (.slice none 0 0)], .lit false]) [⟨.recs sh c, e, .rows 3⟩, b0, b1] := by
 unfold retG leSel leSelBy autoSel
 simp [pairsL, pairsV, idPairs, pairsIn, selOf, lookN, selMem, chkB, nodupSel, hasSel, prefSel, leSt, leL, leV, nilToL, V.nilTo, isNilS, isGhost, findSel, selL, V.sel, Cells.selN, Cells.none0, leMem, leCells, memUnder, underL, V.under, Kind.isRow]
 try exact trivial
theorem retG_nomg {c : List Sc} {sh : List Sh} {e f y : TypeId} {z : Kind} {g0 g1 g2 g3 : List UInt8} {b0 b1 : Blk} : retG 2 (.tup [.agg [.int .i64 0, .int .i64 0, .row 2 0], .bool false]) [⟨.recs sh c, e, .rows 3⟩, ⟨.vals [.str g0, .str g1, .str g2, .str g3], y, z⟩, ⟨.recs sh [], f, .rows 3⟩] (.tup [.agg [.int .i64 0, .int .i64 0, .raw (.slice none 0 0)], .lit false]) [⟨.recs sh c, e, .rows 3⟩, ⟨.vals [.str g0, .str g1, .str g2, .str g3], y, z⟩, b0, b1] := by
 unfold retG leSel leSelBy autoSel
 simp [pairsL, pairsV, idPairs, pairsIn, selOf, lookN, selMem, chkB, nodupSel, hasSel, prefSel, leSt, leL, leV, nilToL, V.nilTo, isNilS, isGhost, findSel, selL, V.sel, Cells.selN, Cells.none0, leMem, leCells, memUnder, underL, V.under, Kind.isRow]
 try exact trivial
theorem retG_migl {s i : Int} {c d d' : List Sc} {sh : List Sh} {e f y : TypeId} {z : Kind} {n m : Nat} {g0 g1 g2 g3 : List UInt8} {b0 b1 : Blk} (hd : d' = d) (hm : m = n) : retG 2 (.tup [.agg [.int .i64 s, .int .i64 i, .row 2 n], .bool true]) [⟨.recs sh c, e, .rows 3⟩, ⟨.vals [.str g0, .str g1, .str g2, .str g3], y, z⟩, ⟨.recs sh d, f, .rows 3⟩] (.tup [.agg [.int .i64 s, .int .i64 i, .row 4 m], .lit true]) [⟨.recs sh c, e, .rows 3⟩, ⟨.vals [.str g0, .str g1, .str g2, .str g3], y, z⟩, b0, b1, ⟨.recs sh d', f, .rows 3⟩] := by
 subst hd; subst hm
 unfold retG leSel leSelBy autoSel
 simp [pairsL, pairsV, idPairs, pairsIn, selOf, lookN, selMem, chkB, nodupSel, hasSel, prefSel, leSt, leL, leV, nilToL, V.nilTo, isNilS, isGhost, findSel, selL, V.sel, Cells.selN, Cells.none0, leMem, leCells, memUnder, underL, V.under, Kind.isRow]
 try exact trivial
theorem mrRow_len {l : List Row3} {j : Nat} (h : j <= l.length) : (mrRow l j).length = l.length := by
 unfold mrRow; rw [List.length_append, List.length_map, List.length_take, List.length_drop]; omega
theorem mrRow_set {l : List Row3} {j : Nat} (h : j < l.length) : (flat3 (mrRow l j)).set (j * 3 + 1) ⟨0, othR (l.getD j default).t⟩ = flat3 (mrRow l (j + 1)) := by
 unfold mrRow
 have hl : (flat3 ((l.take j).map mr1)).length = j * 3 := by rw [flat3_length, List.length_map, List.length_take]; omega
 rw [take_snoc h default, List.map_append, flat3_append, flat3_append, flat3_append, drop_cons h default]
 generalize flat3 ((l.take j).map mr1) = A at hl
 simp only [flat3, List.map_cons, List.map_nil, mr1]
 rw [List.set_append_right _ _ (by omega), hl, show j * 3 + 1 - j * 3 = 1 by omega]
 simp
theorem is3_flat (l : List Row3) : is3 (flat3 l) l.length := ⟨by rw [rows3_flat], by rw [rows3_flat]⟩
theorem vc_impl_MirrorTable (s i : Int) (n : Nat) (c : List Sc) (g0 g1 g2 g3 : List UInt8) (h : is3 c n /\ n <= 2000000 /\ isSg g0 g1 g2 g3) : VC_impl_MirrorTable s i n c g0 g1 g2 g3 (retG 2 (.tup [.agg [.int .i64 (zI (tabB s i (rows3 c)) s), .int .i64 (zI (tabB s i (rows3 c)) i), .row 2 (mrR (tabB s i (rows3 c)) (rows3 c)).length], .bool (tabB s i (rows3 c))])
  [⟨.recs [.int .i64, .str, .int .i64] c, 96, .rows 3⟩, ⟨.vals [.str g0, .str g1, .str g2, .str g3], 9, .gl 0⟩, ⟨.recs [.int .i64, .str, .int .i64] (flat3 (mrR (tabB s i (rows3 c)) (rows3 c))), 96, .rows 3⟩]) := by
 obtain ⟨⟨hc, hn⟩, h2, hsg⟩ := h
 unfold VC_impl_MirrorTable
 generalize rows3 c = l at hc hn ⊢
 subst hc; subst hn
 have h3 := is3_flat l
 simp only [at_iff, Bool.not_eq_true', Bool.not_eq_false', true_and, and_true]
 refine ⟨⟨h3, h2, hsg⟩, fun hg => ?_, fun hg => ⟨⟨h3, h2, (tab_bd hg).1⟩, rfl, ⟨hg, Int.le_refl _, by omega⟩, fun j hj => ⟨fun hd => ?_, fun hd => ?_⟩⟩⟩
 ·rw [mr_no hg, hg]; exact retG_nomg
 ·have hd := of_decide_eq_true hd
  obtain ⟨_, q1, q2⟩ := hj
  obtain ⟨m, rfl⟩ : ∃ m : Nat, j = m := ⟨j.toNat, by omega⟩
  have hm : m < l.length := by omega
  have e4 : IntKind.wrap .i64 ((m : Int) + 1) = (m : Int) + 1 := wrap64_in (by omega)
  obtain ⟨f0, f1, f2⟩ := flat3_get l m ⟨0, []⟩ hm
  have hl : (flat3 l).length = l.length * 3 := flat3_length l
  have hl2 : (flat3 (mrRow l m)).length = l.length * 3 := by rw [flat3_length, mrRow_len (by omega)]
  have ht := (tab_bd hg).2.2 _ (getD_mem hm default)
  rw [e4]
  simp only [Int.toNat_natCast, f1, hl, hl2, ht, show ((m : Int) + 1).toNat = m + 1 by omega, mrRow_set hm]
  refine ⟨⟨by omega, hd⟩, ⟨by omega, by omega⟩, by omega, ⟨by omega, hd⟩, ⟨by omega, (sh3_at m).2.1⟩, trivial, ⟨hg, by omega, by omega⟩, by omega⟩
 ·have hd := of_decide_eq_false hd
  obtain ⟨_, q1, q2⟩ := hj
  rw [mr_yes hg, hg, show j.toNat = l.length by omega]
  refine retG_migl ?_ (by rw [List.length_map])
  unfold mrRow
  rw [List.take_length, List.drop_length, List.append_nil]
theorem retG_misp {s i : Int} {c d d' : List Sc} {sh : List Sh} {e f : TypeId} {n m : Nat} {b0 b1 : Blk} (hd : d' = d) (hm : m = n) : retG 1 (.tup [.agg [.int .i64 s, .int .i64 i, .row 1 n], .bool true]) [⟨.recs sh c, e, .rows 3⟩, ⟨.recs sh d, f, .rows 3⟩] (.tup [.agg [.int .i64 s, .int .i64 i, .row 3 m], .lit true]) [⟨.recs sh c, e, .rows 3⟩, b0, b1, ⟨.recs sh d', f, .rows 3⟩] := by
 subst hd; subst hm
 unfold retG leSel leSelBy autoSel
 simp [pairsL, pairsV, idPairs, pairsIn, selOf, lookN, selMem, chkB, nodupSel, hasSel, prefSel, leSt, leL, leV, nilToL, V.nilTo, isNilS, isGhost, findSel, selL, V.sel, Cells.selN, Cells.none0, leMem, leCells, memUnder, underL, V.under, Kind.isRow]
 try exact trivial
theorem mr_snoc {l : List Row3} {m : Nat} (h : m < l.length) : flat3 ((l.take (m + 1)).map mr1) = flat3 ((l.take m).map mr1) ++ [⟨(l.getD m default).a, []⟩, ⟨0, othR (l.getD m default).t⟩, ⟨(l.getD m default).b, []⟩] := by
 rw [take_snoc h default, List.map_append, flat3_append]
 rfl
theorem vc_spec_MirrorTable (s i : Int) (n : Nat) (c : List Sc) (h : is3 c n /\ n <= 2000000) : VC_spec_MirrorTable s i n c (retG 1 (.tup [.agg [.int .i64 (zI (tabB s i (rows3 c)) s), .int .i64 (zI (tabB s i (rows3 c)) i), .row 1 (mrR (tabB s i (rows3 c)) (rows3 c)).length], .bool (tabB s i (rows3 c))])
  [⟨.recs [.int .i64, .str, .int .i64] c, 96, .rows 3⟩, ⟨.recs [.int .i64, .str, .int .i64] (flat3 (mrR (tabB s i (rows3 c)) (rows3 c))), 96, .rows 3⟩]) := by
 obtain ⟨⟨hc, hn⟩, h2⟩ := h
 unfold VC_spec_MirrorTable
 have hQ : ∀ m : Nat, m < (rows3 c).length -> VC_spec_MirrorTable_q1 s i n c m := fun m hm => by
  unfold VC_spec_MirrorTable_q1
  simp only [at_iff, true_and, and_true, Int.toNat_natCast]
  have hl : (flat3 (((rows3 c).take m).map mr1)).length = m * 3 := by rw [flat3_length, List.length_map, List.length_take]; omega
  refine ⟨⟨⟨hl, by simp⟩, by omega, by omega⟩, rfl⟩
 generalize hl0 : rows3 c = l at hc hn hQ ⊢
 have h3 : is3 c n := ⟨by rw [hl0]; exact hc, by rw [hl0]; exact hn⟩
 simp only [at_iff, Bool.not_eq_true', Bool.not_eq_false', true_and, and_true]
 refine ⟨⟨h3, h2⟩, fun hg => ?_, fun hg => ⟨rfl, ⟨hg, Int.le_refl _, by omega⟩, fun j hj => ⟨fun hd => ?_, fun hd => ?_⟩⟩⟩
 ·rw [mr_no hg, hg]; exact retG_nomi
 ·have hd := of_decide_eq_true hd
  obtain ⟨_, q1, q2⟩ := hj
  obtain ⟨m, rfl⟩ : ∃ m : Nat, j = m := ⟨j.toNat, by omega⟩
  have hm : m < l.length := by omega
  have e4 : IntKind.wrap .i64 ((m : Int) + 1) = (m : Int) + 1 := wrap64_in (by omega)
  obtain ⟨f0, f1, f2⟩ := flat3_get l m ⟨0, []⟩ hm
  rw [<- hc] at f0 f1 f2
  have hl : c.length = l.length * 3 := by rw [hc]; exact flat3_length l
  have ht := (tab_bd hg).2.2 _ (getD_mem hm default)
  have hq := hQ m hm
  have hs := mr_snoc hm
  simp only [hq, e4, Int.toNat_natCast, f0, f1, f2, hl, ht, show ((m : Int) + 1).toNat = m + 1 by omega, hs, true_and, and_true, and_self]
  exact ⟨⟨by omega, hd⟩, ⟨by omega, by omega⟩, by omega, ⟨hg, by omega, by omega⟩, by omega⟩
 ·have hd := of_decide_eq_false hd
  obtain ⟨_, q1, q2⟩ := hj
  rw [mr_yes hg, hg, show j.toNat = l.length by omega]
  refine retG_misp ?_ (by rw [List.length_map])
  rw [List.take_length]
end Go.Vi
