/- Walks on routes: the conditions hold. -/
import Derived.Test.YtopolpgligoldacRDVc
import Derived.Test.YtopolpgligoldacRDSpec
namespace Go.Vi
/-! ### ends of calls -/
theorem retG_own {l c : List (List Int)} {ro d : List Int} {et e f : TypeId} {n m a b : Nat} {B B' : Blk} {J : List Blk} (hc : c = l) (hd : d = ro) (ha : a = n) (hb : b = m) :
    retG 2 (.agg [.row 2 n, .row 3 m]) [⟨.mat .i64 et l, e, .mat⟩, ⟨.ints .i64 ro, f, .row⟩, ⟨.mat .i64 et l, e, .mat⟩, ⟨.ints .i64 ro, f, .row⟩] (.agg [.row 4 a, .row 5 b]) (⟨.mat .i64 et l, e, .mat⟩ :: ⟨.ints .i64 ro, f, .row⟩ :: B :: B' :: ⟨.mat .i64 et c, e, .mat⟩ :: ⟨.ints .i64 d, f, .row⟩ :: J) := by
  subst hc; subst hd; subst ha; subst hb
  unfold retG leSel leSelBy autoSel
  simp [pairsL, pairsV, idPairs, pairsIn, selOf, lookN, findSel, selMem, chkB, nodupSel, hasSel, prefSel, leSt, leL, leV, nilToL, V.nilTo, isNilS, isGhost, selL, V.sel, Cells.selN, leMem, leCells, memUnder, underL, V.under]
  trivial
theorem retG_ms {r r' : Int} {l : List (List Int)} {ro d : List Int} {et e f : TypeId} {J : List Blk} (hr : r' = r) (hd : d = ro) :
    retG 2 (.int .i64 r) [⟨.mat .i64 et l, e, .mat⟩, ⟨.ints .i64 ro, f, .row⟩] (.int .i64 r') (⟨.mat .i64 et l, e, .mat⟩ :: ⟨.ints .i64 d, f, .row⟩ :: J) := by
  subst hr; subst hd
  unfold retG leSel leSelBy autoSel
  simp [pairsL, pairsV, idPairs, pairsIn, selOf, lookN, findSel, selMem, chkB, nodupSel, hasSel, prefSel, leSt, leL, leV, nilToL, V.nilTo, selL, V.sel, Cells.selN, leMem, leCells, memUnder, underL, V.under]
theorem retG_go {r r' x x' : Int} {n : Nat} {q q' : List Int} {l : List (List Int)} {et e t : TypeId} {J : List Blk} (hr : r' = r) (hx : x' = x) (hq : q' = q) :
    retG 2 (.int .i64 r) [⟨.mixi [.row 1 n, .int .i64 x] 10 q [], t, .box⟩, ⟨.mat .i64 et l, e, .mat⟩] (.int .i64 r') (⟨.mixi [.row 1 n, .int .i64 x'] 10 q' [], t, .box⟩ :: ⟨.mat .i64 et l, e, .mat⟩ :: J) := by
  subst hr; subst hx; subst hq
  unfold retG leSel leSelBy autoSel
  simp [pairsL, pairsV, idPairs, pairsIn, selOf, lookN, findSel, selMem, chkB, nodupSel, hasSel, prefSel, leSt, leL, leV, nilToL, V.nilTo, selL, V.sel, Cells.selN, leMem, leCells, memUnder, underL, V.under]
  trivial
theorem retG_now {x : Int} {n a b : Nat} {q d d' : List Int} {l c : List (List Int)} {et e f t : TypeId} {B B' : Blk} {J : List Blk} (hc : c = l) (hd : d = d') (ha : a = n) (hb : b = n) :
    retG 2 (.agg [.row 2 n, .row 3 n]) [⟨.mixi [.row 1 n, .int .i64 x] 10 q [], t, .box⟩, ⟨.mat .i64 et l, e, .mat⟩, ⟨.mat .i64 et l, e, .mat⟩, ⟨.ints .i64 d', f, .row⟩] (.agg [.row 4 a, .row 5 b]) (⟨.mixi [.row 1 n, .int .i64 x] 10 q [], t, .box⟩ :: ⟨.mat .i64 et l, e, .mat⟩ :: B :: B' :: ⟨.mat .i64 et c, e, .mat⟩ :: ⟨.ints .i64 d, f, .row⟩ :: J) := by
  subst hc; subst hd; subst ha; subst hb
  unfold retG leSel leSelBy autoSel
  simp [pairsL, pairsV, idPairs, pairsIn, selOf, lookN, findSel, selMem, chkB, nodupSel, hasSel, prefSel, leSt, leL, leV, nilToL, V.nilTo, isNilS, isGhost, selL, V.sel, Cells.selN, leMem, leCells, memUnder, underL, V.under]
  trivial
theorem retG_tn {l : List (List Int)} {ro : List Int} {c : List (List Int)} {d : List Int} {u v : Nat} {r : Int} {b : Bool} {et e f : TypeId} {J : List Blk} (hb : b = false) (hr : r = 0) (hu : u = 0) (hv : v = 0) (hc : c = []) (hd : d = []) :
    retG 2 (.tup [.agg [.row 2 u, .row 3 v], .int .i64 r, .bool b]) [⟨.mat .i64 et l, e, .mat⟩, ⟨.ints .i64 ro, f, .row⟩, ⟨.mat .i64 et c, e, .mat⟩, ⟨.ints .i64 d, f, .row⟩] (.tup [.agg [.raw (.slice none 0 0), .raw (.slice none 0 0)], .int .i64 0, .lit false]) (⟨.mat .i64 et l, e, .mat⟩ :: ⟨.ints .i64 ro, f, .row⟩ :: J) := by
  subst hb; subst hr; subst hu; subst hv; subst hc; subst hd
  unfold retG leSel leSelBy autoSel
  simp [pairsL, pairsV, idPairs, pairsIn, selOf, lookN, findSel, selMem, chkB, nodupSel, hasSel, prefSel, leSt, leL, leV, nilToL, V.nilTo, isNilS, isGhost, selL, V.sel, Cells.selN, Cells.none0, Kind.isRow, Blk.isOwnMat, leMem, leCells, memUnder, underL, V.under]
  trivial
theorem retG_ty4 {l c c' : List (List Int)} {ro d d' : List Int} {u v u' v' : Nat} {r r' : Int} {b : Bool} {et e f : TypeId} {B B' : Blk} {J : List Blk} (hb : b = true) (hr : r' = r) (hu : u' = u) (hv : v' = v) (hc : c' = c) (hd : d' = d) :
    retG 2 (.tup [.agg [.row 2 u, .row 3 v], .int .i64 r, .bool b]) [⟨.mat .i64 et l, e, .mat⟩, ⟨.ints .i64 ro, f, .row⟩, ⟨.mat .i64 et c, e, .mat⟩, ⟨.ints .i64 d, f, .row⟩] (.tup [.agg [.row 4 u', .row 5 v'], .int .i64 r', .lit true]) (⟨.mat .i64 et l, e, .mat⟩ :: ⟨.ints .i64 ro, f, .row⟩ :: B :: B' :: ⟨.mat .i64 et c', e, .mat⟩ :: ⟨.ints .i64 d', f, .row⟩ :: J) := by
  subst hb; subst hr; subst hu; subst hv; subst hc; subst hd
  unfold retG leSel leSelBy autoSel
  simp [pairsL, pairsV, idPairs, pairsIn, selOf, lookN, findSel, selMem, chkB, nodupSel, hasSel, prefSel, leSt, leL, leV, nilToL, V.nilTo, isNilS, isGhost, selL, V.sel, Cells.selN, leMem, leCells, memUnder, underL, V.under]
  trivial
theorem retG_tb4 {l c : List (List Int)} {ro d : List Int} {u v : Nat} {r : Int} {b : Bool} {et e f : TypeId} {B B' : Blk} :
    retG 2 (.tup [.agg [.row 2 u, .row 3 v], .int .i64 r, .bool b]) [⟨.mat .i64 et l, e, .mat⟩, ⟨.ints .i64 ro, f, .row⟩, ⟨.mat .i64 et c, e, .mat⟩, ⟨.ints .i64 d, f, .row⟩] (.tup [.agg [.row 4 u, .row 5 v], .int .i64 r, .bool b]) [⟨.mat .i64 et l, e, .mat⟩, ⟨.ints .i64 ro, f, .row⟩, B, B', ⟨.mat .i64 et c, e, .mat⟩, ⟨.ints .i64 d, f, .row⟩] := by
  unfold retG leSel leSelBy autoSel
  simp [pairsL, pairsV, idPairs, pairsIn, selOf, lookN, findSel, selMem, chkB, nodupSel, hasSel, prefSel, leSt, leL, leV, nilToL, V.nilTo, isNilS, isGhost, selL, V.sel, Cells.selN, leMem, leCells, memUnder, underL, V.under]
  trivial
theorem retG_ty3 {l c c' : List (List Int)} {ro d d' : List Int} {u v u' v' : Nat} {r r' : Int} {b : Bool} {et e f : TypeId} {B : Blk} {J : List Blk} (hb : b = true) (hr : r' = r) (hu : u' = u) (hv : v' = v) (hc : c' = c) (hd : d' = d) :
    retG 2 (.tup [.agg [.row 2 u, .row 3 v], .int .i64 r, .bool b]) [⟨.mat .i64 et l, e, .mat⟩, ⟨.ints .i64 ro, f, .row⟩, ⟨.mat .i64 et c, e, .mat⟩, ⟨.ints .i64 d, f, .row⟩] (.tup [.agg [.row 3 u', .row 4 v'], .int .i64 r', .lit true]) (⟨.mat .i64 et l, e, .mat⟩ :: ⟨.ints .i64 ro, f, .row⟩ :: B :: ⟨.mat .i64 et c', e, .mat⟩ :: ⟨.ints .i64 d', f, .row⟩ :: J) := by
  subst hb; subst hr; subst hu; subst hv; subst hc; subst hd
  unfold retG leSel leSelBy autoSel
  simp [pairsL, pairsV, idPairs, pairsIn, selOf, lookN, findSel, selMem, chkB, nodupSel, hasSel, prefSel, leSt, leL, leV, nilToL, V.nilTo, isNilS, isGhost, selL, V.sel, Cells.selN, leMem, leCells, memUnder, underL, V.under]
  trivial
theorem retG_kn {l : List (List Int)} {ro d : List Int} {u : Nat} {b : Bool} {et e f : TypeId} {J : List Blk} (hb : b = false) (hu : u = 0) (hd : d = []) :
    retG 2 (.tup [.row 2 u, .bool b]) [⟨.mat .i64 et l, e, .mat⟩, ⟨.ints .i64 ro, f, .row⟩, ⟨.ints .i64 d, f, .row⟩] (.tup [.raw (.slice none 0 0), .lit false]) (⟨.mat .i64 et l, e, .mat⟩ :: ⟨.ints .i64 ro, f, .row⟩ :: J) := by
  subst hb; subst hu; subst hd
  unfold retG leSel leSelBy autoSel
  simp [pairsL, pairsV, idPairs, pairsIn, selOf, lookN, findSel, selMem, chkB, nodupSel, hasSel, prefSel, leSt, leL, leV, nilToL, V.nilTo, isNilS, isGhost, selL, V.sel, Cells.selN, Cells.none0, Kind.isRow, Blk.isOwnMat, leMem, leCells, memUnder, underL, V.under]
  trivial
theorem retG_ky3 {l : List (List Int)} {ro d d' : List Int} {u u' : Nat} {b : Bool} {et e f : TypeId} {B : Blk} {J : List Blk} (hb : b = true) (hu : u' = u) (hd : d' = d) :
    retG 2 (.tup [.row 2 u, .bool b]) [⟨.mat .i64 et l, e, .mat⟩, ⟨.ints .i64 ro, f, .row⟩, ⟨.ints .i64 d, f, .row⟩] (.tup [.row 3 u', .lit true]) (⟨.mat .i64 et l, e, .mat⟩ :: ⟨.ints .i64 ro, f, .row⟩ :: B :: ⟨.ints .i64 d', f, .row⟩ :: J) := by
  subst hb; subst hu; subst hd
  unfold retG leSel leSelBy autoSel
  simp [pairsL, pairsV, idPairs, pairsIn, selOf, lookN, findSel, selMem, chkB, nodupSel, hasSel, prefSel, leSt, leL, leV, nilToL, V.nilTo, isNilS, isGhost, selL, V.sel, Cells.selN, leMem, leCells, memUnder, underL, V.under]
  trivial
theorem retG_ky2 {l : List (List Int)} {ro d d' : List Int} {u u' : Nat} {b : Bool} {et e f : TypeId} {J : List Blk} (hb : b = true) (hu : u' = u) (hd : d' = d) :
    retG 2 (.tup [.row 2 u, .bool b]) [⟨.mat .i64 et l, e, .mat⟩, ⟨.ints .i64 ro, f, .row⟩, ⟨.ints .i64 d, f, .row⟩] (.tup [.row 2 u', .lit true]) (⟨.mat .i64 et l, e, .mat⟩ :: ⟨.ints .i64 ro, f, .row⟩ :: ⟨.ints .i64 d', f, .row⟩ :: J) := by
  subst hb; subst hu; subst hd
  unfold retG leSel leSelBy autoSel
  simp [pairsL, pairsV, idPairs, pairsIn, selOf, lookN, findSel, selMem, chkB, nodupSel, hasSel, prefSel, leSt, leL, leV, nilToL, V.nilTo, isNilS, isGhost, selL, V.sel, Cells.selN, leMem, leCells, memUnder, underL, V.under]
  trivial
theorem retG_tr3 {l : List (List Int)} {ro d d' : List Int} {u u' : Nat} {et e f : TypeId} {B : Blk} {J : List Blk} (hu : u' = u) (hd : d' = d) :
    retG 2 (.row 2 u) [⟨.mat .i64 et l, e, .mat⟩, ⟨.ints .i64 ro, f, .row⟩, ⟨.ints .i64 d, f, .row⟩] (.row 3 u') (⟨.mat .i64 et l, e, .mat⟩ :: ⟨.ints .i64 ro, f, .row⟩ :: B :: ⟨.ints .i64 d', f, .row⟩ :: J) := by
  subst hu; subst hd
  unfold retG leSel leSelBy autoSel
  simp [pairsL, pairsV, idPairs, pairsIn, selOf, lookN, findSel, selMem, chkB, nodupSel, hasSel, prefSel, leSt, leL, leV, nilToL, V.nilTo, isNilS, isGhost, selL, V.sel, Cells.selN, leMem, leCells, memUnder, underL, V.under]
  trivial
/-! ### what is good stays good -/
theorem rowsB_at {n : Nat} : ∀ {l : List (List Int)} {ro : List Int}, rowsB n l ro = true → ∀ i, i < l.length → rowB n (l.getD i []) (ro.getD i 0) = true
  | [], _, _, i, hi => by simp at hi
  | r :: l, ro, h, i, hi => by
    simp only [rowsB, Bool.and_eq_true] at h
    cases i with
    | zero => cases ro <;> simpa using h.1
    | succ i =>
      have := rowsB_at h.2 i (by simpa using hi)
      cases ro <;> simpa using this
theorem okW_of {l : List (List Int)} {ro : List Int} {n : Nat} {x : Int} (hn : l.length = n) (h : rtOk l ro n x = true) : okW l ro x ∧ ro.length = n ∧ 1 ≤ n ∧ n ≤ 10 := by
  subst hn
  unfold rtOk routeB at h
  simp only [Bool.and_eq_true, beq_iff_eq] at h
  obtain ⟨⟨⟨h1, h2⟩, h3⟩, h4⟩ := h
  rw [inB_eq] at h1 h4
  refine ⟨⟨h4.1, by omega, by omega, by omega, fun i hi => ?_⟩, h2, by omega, by omega⟩
  have := rowsB_at h3 i hi
  unfold rowB allB at this
  simp only [Bool.and_eq_true, List.all_eq_true] at this
  obtain ⟨⟨g1, g2⟩, g3⟩ := this
  rw [inB_eq] at g1 g3
  refine ⟨by omega, by omega, g3.1, by omega, fun j hj => ?_⟩
  have := g2 _ (getD_mem hj 0)
  rw [inB_eq] at this
  omega
theorem okW_next {l : List (List Int)} {q : List Int} {x : Int} (h : okW l q x) : okW l (roNext l x q) (atNext l x q) := by
  obtain ⟨h1, h2, h3, h4, h5⟩ := h
  obtain ⟨a1, a2, a3, a4, a5⟩ := h5 x.toNat (by omega)
  have ha := a5 (q.getD x.toNat 0).toNat (by omega)
  refine ⟨ha.1, ha.2, h3, by unfold roNext; rw [List.length_set]; exact h4, fun i hi => ?_⟩
  obtain ⟨b1, b2, b3, b4, b5⟩ := h5 i hi
  have e : (roNext l x q).getD i 0 = if x.toNat = i then Int.tmod (q.getD x.toNat 0 + 1) ((l.getD x.toNat []).length : Nat) else q.getD i 0 := by
    unfold roNext
    rw [List.getD_eq_getElem?_getD, List.getElem?_set]
    by_cases he : x.toNat = i
    · rw [if_pos he, if_pos he, if_pos (by omega)]; rfl
    · rw [if_neg he, if_neg he, List.getD_eq_getElem?_getD]
  by_cases he : x.toNat = i
  · subst he
    rw [e, if_pos rfl]
    have t1 := Int.tmod_nonneg ((l.getD x.toNat []).length : Nat) (show 0 ≤ q.getD x.toNat 0 + 1 by omega)
    have t2 := Int.tmod_lt_of_pos (q.getD x.toNat 0 + 1) (show (0 : Int) < ((l.getD x.toNat []).length : Nat) by omega)
    exact ⟨b1, b2, t1, t2, b5⟩
  · rw [e, if_neg he]
    exact ⟨b1, b2, b3, b4, b5⟩
theorem okW_at {l : List (List Int)} {q : List Int} {x : Int} (h : okW l q x) : ∀ k, okW l (wR l x q k) (wA l x q k)
  | 0 => h
  | k + 1 => okW_next (okW_at h k)
theorem roNext_len (l : List (List Int)) (x : Int) (q : List Int) : (roNext l x q).length = q.length := by unfold roNext; rw [List.length_set]
theorem wR_len (l : List (List Int)) (x : Int) (q : List Int) : ∀ k, (wR l x q k).length = q.length
  | 0 => rfl
  | k + 1 => by
    show (roNext l (wA l x q k) (wR l x q k)).length = _
    rw [roNext_len, wR_len l x q k]
/-- More rotors behind do not count. -/
theorem wS_app {l : List (List Int)} {q z : List Int} {x : Int} (h : okW l q x) : ∀ k, wA l x (q ++ z) k = wA l x q k ∧ wR l x (q ++ z) k = wR l x q k ++ z
  | 0 => ⟨rfl, rfl⟩
  | k + 1 => by
    obtain ⟨h1, h2⟩ := wS_app (z := z) h k
    have hk := okW_at h k
    have hlt : (wA l x q k).toNat < (wR l x q k).length := by have := hk.1; have := hk.2.1; have := hk.2.2.2.1; omega
    have e1 : ∀ y, (wR l x q k ++ z).getD (wA l x q k).toNat y = (wR l x q k).getD (wA l x q k).toNat y := fun y => by
      rw [List.getD_eq_getElem?_getD, List.getElem?_append_left hlt, ← List.getD_eq_getElem?_getD]
    constructor
    · show atNext l (wA l x (q ++ z) k) (wR l x (q ++ z) k) = atNext l (wA l x q k) (wR l x q k)
      rw [h1, h2]
      unfold atNext
      rw [e1]
    · show roNext l (wA l x (q ++ z) k) (wR l x (q ++ z) k) = roNext l (wA l x q k) (wR l x q k) ++ z
      rw [h1, h2]
      unfold roNext
      rw [e1, List.set_append_left _ _ hlt]
theorem q0_eq {ro : List Int} (h : ro.length ≤ 10) : q0 ro = ro ++ List.replicate (10 - ro.length) 0 ∧ (q0 ro).length = 10 := by
  have e : q0 ro = ro ++ List.replicate (10 - ro.length) 0 := by
    unfold q0 cpI
    have ht : ro.take 10 = ro := List.take_of_length_le h
    have hp : padI 10 [0, 0, 0, 0, 0, 0, 0, 0, 0, 0] = List.replicate 10 0 := rfl
    rw [ht, hp, List.drop_replicate]
  refine ⟨e, ?_⟩
  rw [e]; simp; omega
theorem q0_w {l : List (List Int)} {ro : List Int} {x : Int} (h : okW l ro x) (h10 : ro.length ≤ 10) (k : Nat) : wA l x (q0 ro) k = wA l x ro k ∧ (wR l x (q0 ro) k).take ro.length = wR l x ro k ∧ okW l (wR l x (q0 ro) k) (wA l x (q0 ro) k) ∧ (wR l x (q0 ro) k).length = 10 := by
  obtain ⟨e1, e2⟩ := q0_eq h10
  obtain ⟨a1, a2⟩ := wS_app (z := List.replicate (10 - ro.length) 0) h k
  rw [e1]
  refine ⟨a1, ?_, ?_, ?_⟩
  · rw [a2, ← wR_len l x ro k, List.take_left]
  · have hq : okW l (ro ++ List.replicate (10 - ro.length) 0) x := by
      obtain ⟨h1, h2, h3, h4, h5⟩ := h
      refine ⟨h1, h2, h3, by simp; omega, fun i hi => ?_⟩
      have eg : (ro ++ List.replicate (10 - ro.length) 0).getD i 0 = ro.getD i 0 := by
        rw [List.getD_eq_getElem?_getD, List.getElem?_append_left (by omega), ← List.getD_eq_getElem?_getD]
      rw [eg]
      exact h5 i hi
    exact okW_at hq k
  · rw [wR_len, ← e1, e2]
theorem trk_q0 {l : List (List Int)} {ro : List Int} {x : Int} (h : okW l ro x) (h10 : ro.length ≤ 10) (k : Nat) : trk l x (q0 ro) k = trk l x ro k := by
  unfold trk
  exact List.map_congr_left fun i _ => (q0_w h h10 (i + 1)).1
theorem vis_q0 {l : List (List Int)} {ro : List Int} {x : Int} (h : okW l ro x) (h10 : ro.length ≤ 10) : ∀ k, vis l x (q0 ro) k = vis l x ro k
  | 0 => rfl
  | k + 1 => by simp only [vis]; rw [vis_q0 h h10 k, (q0_w h h10 (k + 1)).1]
theorem trk_succ (l : List (List Int)) (x : Int) (ro : List Int) (k : Nat) : trk l x ro (k + 1) = trk l x ro k ++ [wA l x ro (k + 1)] := by simp [trk, List.range_succ]
theorem trk_len (l : List (List Int)) (x : Int) (ro : List Int) (k : Nat) : (trk l x ro k).length = k := by simp [trk]
theorem trk_get {l : List (List Int)} {x : Int} {ro : List Int} {k i : Nat} (h : i < k) : (trk l x ro k).getD i 0 = wA l x ro (i + 1) := by
  unfold trk
  rw [List.getD_eq_getElem?_getD, List.getElem?_map, List.getElem?_range h]; rfl
theorem vis_len (l : List (List Int)) (x : Int) (ro : List Int) : ∀ k, (vis l x ro k).length = l.length
  | 0 => by simp [vis]
  | k + 1 => by simp only [vis, List.length_set]; exact vis_len l x ro k
/-! ### the functions -/
theorem vc_spec_roNode (x : Int) (n m : Nat) (l : List (List Int)) (ro : List Int) (h : l.length = n ∧ ro.length = m ∧ smallM l ∧ m ≤ 2000000) :
    VC_spec_roNode x n m l ro (retG 2 (.bool (rtOk l ro n x)) [⟨.mat .i64 3 l, 23, .mat⟩, ⟨.ints .i64 ro, 3, .row⟩]) := by
  unfold VC_spec_roNode
  have hl := h.2.2.1.1
  have hn := h.1
  rw [wrap64_in (x := (n : Int) - 1) (by omega)]
  refine ⟨⟨h⟩, fun hr => ⟨⟨trivial⟩, retG_r2b ?_⟩, fun hr => retG_r2l ?_⟩
  · unfold rtOk; rw [hr]; simp
  · unfold rtOk; rw [hr]; simp
theorem vc_spec_roWalk (x steps : Int) (n m : Nat) (l : List (List Int)) (ro : List Int) (h : l.length = n ∧ ro.length = m ∧ smallM l ∧ m ≤ 2000000) :
    VC_spec_roWalk x steps n m l ro (retG 2 (.bool (wkOk l ro n x steps)) [⟨.mat .i64 3 l, 23, .mat⟩, ⟨.ints .i64 ro, 3, .row⟩]) := by
  unfold VC_spec_roWalk
  refine ⟨⟨h⟩, fun hr => ⟨⟨trivial⟩, retG_r2b ?_⟩, fun hr => retG_r2l ?_⟩
  · unfold wkOk; rw [hr]; simp
  · unfold wkOk; rw [hr]; simp
theorem vc_impl_isWalk (steps : Int) (_ : True) : VC_impl_isWalk steps (retP (.bool (inB steps 0 3000))) := by
  unfold VC_impl_isWalk
  simp [retP_bool]
theorem vc_spec_roOwn (n m : Nat) (l : List (List Int)) (ro : List Int) (h : l.length = n ∧ ro.length = m ∧ smallM l ∧ m ≤ 2000000 ∧ 0 < m ∧ ∀ r ∈ l, 0 < r.length) :
    VC_spec_roOwn n m l ro (retG 2 (.agg [.row 2 n, .row 3 m]) [⟨.mat .i64 3 l, 23, .mat⟩, ⟨.ints .i64 ro, 3, .row⟩, ⟨.mat .i64 3 l, 23, .mat⟩, ⟨.ints .i64 ro, 3, .row⟩]) := by
  obtain ⟨rfl, rfl, ⟨h3, h3'⟩, h4, h5, h6⟩ := h
  unfold VC_spec_roOwn
  simp only [List.replicate_zero, List.nil_append, Nat.mul_one, List.take_length, at_iff, true_and, and_true, and_self, Nat.zero_add, Nat.le_refl, List.length_nil]
  refine ⟨⟨h5, by omega⟩, by simp, ⟨by omega, by omega⟩, fun a ha => ⟨fun hc => ?_, fun hc => ?_⟩⟩
  · have hc := of_decide_eq_true hc
    obtain ⟨g1, g2⟩ := ha
    have hil : a.toNat < l.length := by omega
    have hr := h6 _ (getD_mem hil [])
    have hr' := h3' _ (getD_mem hil [])
    have e1 : IntKind.wrap .i64 (a + 1) = a + 1 := wrap64_in (by omega)
    have e2 : (a + 1).toNat = a.toNat + 1 := by omega
    have e3 : (l.take a.toNat).length = a.toNat := by rw [List.length_take]; omega
    have e4 : a.toNat + 1 ≤ 1000000000 := by omega
    have e5 : (l.getD a.toNat []).length ≤ 1000000000 := by omega
    simp only [e1, e2, e3, e4, e5, hr, g1, hc, hil, take_snoc hil [], and_self, true_and]
    exact ⟨⟨by omega, by omega⟩, by omega⟩
  · have hc := of_decide_eq_false hc
    obtain ⟨g1, g2⟩ := ha
    have e : a.toNat = l.length := by omega
    rw [e]
    exact retG_own (List.take_length ..) rfl rfl rfl
theorem vc_spec_roStep (x : Int) (n m : Nat) (l : List (List Int)) (ro : List Int) (h : l.length = n ∧ ro.length = m ∧ okW l ro x) :
    VC_spec_roStep x n m l ro (retG 2 (.int .i64 (atNext l x ro)) [⟨.mat .i64 3 l, 23, .mat⟩, ⟨.ints .i64 (roNext l x ro), 3, .row⟩]) := by
  obtain ⟨rfl, rfl, h1, h2, h3, h4, h5⟩ := h
  unfold VC_spec_roStep
  obtain ⟨a1, a2, a3, a4, a5⟩ := h5 x.toNat (by omega)
  rw [wrap64_in (x := ro.getD x.toNat 0 + 1) (by omega)]
  simp only [at_iff]
  exact ⟨⟨h1, by omega⟩, by omega, trivial, ⟨h1, h2⟩, by omega, by omega, ⟨h1, by omega⟩, by omega, ⟨h1, h2⟩, by omega, ⟨a3, a4⟩, ⟨by omega, by omega⟩, retG_ms rfl rfl⟩
theorem vc_impl_walk_goOn (n : Nat) (x : Int) (q : List Int) (l : List (List Int)) (h : l.length = n ∧ q.length = 10 ∧ okW l q x) :
    VC_impl_walk_goOn n x q l (retG 2 (.int .i64 (q.getD x.toNat 0)) [⟨.mixi [.row 1 n, .int .i64 (atNext l x q)] 10 (roNext l x q) [], 58, .box⟩, ⟨.mat .i64 3 l, 23, .mat⟩]) := by
  obtain ⟨rfl, hq, h1, h2, h3, h4, h5⟩ := h
  unfold VC_impl_walk_goOn
  obtain ⟨a1, a2, a3, a4, a5⟩ := h5 x.toNat (by omega)
  rw [wrap64_in (x := q.getD x.toNat 0 + 1) (by omega), padI_self hq]
  simp only [at_iff]
  exact ⟨⟨h1, by omega⟩, ⟨h1, h2⟩, by omega, ⟨a3, a4⟩, ⟨by omega, by omega⟩, trivial, ⟨h1, h2⟩, by omega, by omega, ⟨h1, by omega⟩, retG_go rfl rfl rfl⟩
theorem vc_impl_walk_routeNow (n : Nat) (x : Int) (q : List Int) (l : List (List Int)) (h : l.length = n ∧ q.length = 10 ∧ okW l q x) :
    VC_impl_walk_routeNow n x q l (retG 2 (.agg [.row 2 n, .row 3 n]) [⟨.mixi [.row 1 n, .int .i64 x] 10 q [], 58, .box⟩, ⟨.mat .i64 3 l, 23, .mat⟩, ⟨.mat .i64 3 l, 23, .mat⟩, ⟨.ints .i64 (q.take n), 3, .row⟩]) := by
  obtain ⟨rfl, hq, h1, h2, h3, h4, h5⟩ := h
  unfold VC_impl_walk_routeNow
  have hp : 0 < l.length := by omega
  have hp2 : l.length ≤ 1000000000 := by omega
  have e0 : ((l.length : Nat) : Int).toNat = l.length := by omega
  have e1 : (l.length : Int) ≤ ((10 : Nat) : Int) := by omega
  simp only [padI_self hq, hq, e0, e1, hp, hp2, List.replicate_zero, List.nil_append, Nat.mul_one, List.take_length, at_iff, true_and, and_true, and_self, Nat.zero_add, Nat.le_refl, List.length_nil, Int.natCast_nonneg, h3]
  refine ⟨by simp, ⟨by omega, by omega⟩, fun a ha => ⟨fun hc => ?_, fun hc => ?_⟩⟩
  · have hc := of_decide_eq_true hc
    obtain ⟨g1, g2⟩ := ha
    have hil : a.toNat < l.length := by omega
    obtain ⟨r1, r2, _⟩ := h5 a.toNat hil
    have hr : 0 < (l.getD a.toNat []).length := by omega
    have e1 : IntKind.wrap .i64 (a + 1) = a + 1 := wrap64_in (by omega)
    have e2 : (a + 1).toNat = a.toNat + 1 := by omega
    have e3 : (l.take a.toNat).length = a.toNat := by rw [List.length_take]; omega
    have e4 : a.toNat + 1 ≤ 1000000000 := by omega
    have e5 : (l.getD a.toNat []).length ≤ 1000000000 := by omega
    simp only [e1, e2, e3, e4, e5, hr, g1, hc, hil, take_snoc hil [], and_self, true_and]
    exact ⟨⟨by omega, by omega⟩, by omega⟩
  · have hc := of_decide_eq_false hc
    obtain ⟨g1, g2⟩ := ha
    have e : a.toNat = l.length := by omega
    rw [e]
    exact retG_now (List.take_length ..) rfl rfl rfl
/-! ### walks -/
theorem wk_bd {l : List (List Int)} {ro : List Int} {n : Nat} {x steps : Int} (h : wkOk l ro n x steps = true) : rtOk l ro n x = true ∧ 0 ≤ steps ∧ steps ≤ 3000 := by
  unfold wkOk at h
  simp only [Bool.and_eq_true] at h
  have := inB_eq.1 h.2
  exact ⟨h.1, this.1, this.2⟩
theorem okW_rows {l : List (List Int)} {ro : List Int} {x : Int} (h : okW l ro x) : ∀ r ∈ l, 0 < r.length := by
  intro r hr
  obtain ⟨i, hi⟩ := List.mem_iff_getElem?.1 hr
  have hil := (List.getElem?_eq_some_iff.1 hi).1
  have := (h.2.2.2.2 i hil).1
  rw [List.getD_eq_getElem?_getD, hi] at this
  exact this
theorem walk_no {l : List (List Int)} {ro : List Int} {n : Nat} {x steps : Int} (h : wkOk l ro n x steps = false) : ∀ k, numW l ro n x steps k = 0 ∧ walkA l ro n x steps = 0 ∧ walkL l ro n x steps = [] ∧ walkR l ro n x steps = [] ∧ visitR l ro n x steps = [] := by
  intro k
  unfold numW walkA walkL walkR visitR
  rw [h]
  exact ⟨rfl, rfl, rfl, rfl, rfl⟩
theorem walk_yes {l : List (List Int)} {ro : List Int} {n : Nat} {x steps : Int} (h : wkOk l ro n x steps = true) : ∀ k, numW l ro n x steps k = k ∧ walkA l ro n x steps = wA l x ro steps.toNat ∧ walkL l ro n x steps = l ∧ walkR l ro n x steps = wR l x ro steps.toNat ∧ visitR l ro n x steps = vis l x ro steps.toNat := by
  intro k
  unfold numW walkA walkL walkR visitR
  rw [h]
  exact ⟨rfl, rfl, rfl, rfl, rfl⟩
theorem wS_succ (l : List (List Int)) (x : Int) (ro : List Int) (k : Nat) : atNext l (wA l x ro k) (wR l x ro k) = wA l x ro (k + 1) ∧ roNext l (wA l x ro k) (wR l x ro k) = wR l x ro (k + 1) := ⟨rfl, rfl⟩
theorem vc_spec_WalkAfter (x steps : Int) (n m : Nat) (l : List (List Int)) (ro : List Int) (h : l.length = n ∧ ro.length = m ∧ smallM l ∧ m ≤ 2000000) :
    VC_spec_WalkAfter x steps n m l ro (retG 2 (.tup [.agg [.row 2 (numW l ro n x steps n), .row 3 (numW l ro n x steps n)], .int .i64 (walkA l ro n x steps), .bool (wkOk l ro n x steps)]) [⟨.mat .i64 3 l, 23, .mat⟩, ⟨.ints .i64 ro, 3, .row⟩, ⟨.mat .i64 3 (walkL l ro n x steps), 23, .mat⟩, ⟨.ints .i64 (walkR l ro n x steps), 3, .row⟩]) := by
  unfold VC_spec_WalkAfter
  refine ⟨⟨h⟩, fun hn => ?_, fun hy => ?_⟩
  · simp only [Bool.not_eq_true'] at hn
    obtain ⟨w1, w2, w3, w4, _⟩ := walk_no hn n
    exact retG_tn hn w2 w1 w1 w3 w4
  · simp only [Bool.not_eq_false'] at hy
    obtain ⟨w1, w2, w3, w4, _⟩ := walk_yes hy n
    rw [w1, w2, w3, w4]
    obtain ⟨hr, hs1, hs2⟩ := wk_bd hy
    obtain ⟨hw, hm, hn1, hn2⟩ := okW_of h.1 hr
    have e0 : (steps - steps).toNat = 0 := by omega
    refine ⟨⟨h.1, h.2.1, h.2.2.1, h.2.2.2, by omega, okW_rows hw⟩, ⟨trivial, by rw [e0]; simp [wA, wS], ⟨by simp, by simp, by simp, by simp [h.1, h.2.1], by simp, by rw [e0]; simp [wR, wS], trivial⟩, trivial⟩, ⟨hs1, Int.le_refl _⟩, fun a ha => ⟨fun hc => ?_, fun hc => ?_⟩⟩
    · have hc := of_decide_eq_true hc
      have e1 : IntKind.wrap .i64 (a - 1) = a - 1 := wrap64_in (by omega)
      have e2 : (steps - (a - 1)).toNat = (steps - a).toNat + 1 := by omega
      rw [e1, e2, (wS_succ l x ro (steps - a).toNat).1, (wS_succ l x ro (steps - a).toNat).2]
      refine ⟨⟨rfl, wR_len .., okW_at hw _⟩, ⟨trivial, by simp, by simp, trivial⟩, ⟨⟨by omega, by omega⟩, by omega⟩⟩
    · have hc := of_decide_eq_false hc
      have e : (steps - a).toNat = steps.toNat := by omega
      rw [e]
      exact retG_ty4 hy rfl h.1 (by rw [hm]) rfl rfl
theorem rt_of {l : List (List Int)} {ro : List Int} {n : Nat} {x : Int} (h1 : (!routeB l ro) = false) (h2 : (!inB x 0 ((n : Int) - 1)) = false) : rtOk l ro n x = true := by
  unfold rtOk
  simp only [Bool.not_eq_false'] at h1 h2
  rw [h1, h2]; rfl
theorem wk_n1 {l : List (List Int)} {ro : List Int} {n : Nat} {x steps : Int} (h : (!routeB l ro) = true) : wkOk l ro n x steps = false := by
  unfold wkOk rtOk
  simp only [Bool.not_eq_true'] at h
  rw [h]; rfl
theorem wk_n2 {l : List (List Int)} {ro : List Int} {n : Nat} {x steps : Int} (h : (!inB x 0 ((n : Int) - 1)) = true) : wkOk l ro n x steps = false := by
  unfold wkOk rtOk
  simp only [Bool.not_eq_true'] at h
  rw [h, Bool.and_false]; rfl
theorem wk_n3 {l : List (List Int)} {ro : List Int} {n : Nat} {x steps : Int} (h : (!inB steps 0 3000) = true) : wkOk l ro n x steps = false := by
  unfold wkOk
  simp only [Bool.not_eq_true'] at h
  rw [h, Bool.and_false]
theorem wk_y {l : List (List Int)} {ro : List Int} {n : Nat} {x steps : Int} (h1 : rtOk l ro n x = true) (h2 : (!inB steps 0 3000) = false) : wkOk l ro n x steps = true := by
  unfold wkOk
  simp only [Bool.not_eq_false'] at h2
  rw [h1, h2]; rfl
theorem vc_impl_WalkAfter (x steps : Int) (n m : Nat) (l : List (List Int)) (ro : List Int) (h : l.length = n ∧ ro.length = m ∧ smallM l ∧ m ≤ 2000000) :
    VC_impl_WalkAfter x steps n m l ro (retG 2 (.tup [.agg [.row 2 (numW l ro n x steps n), .row 3 (numW l ro n x steps n)], .int .i64 (walkA l ro n x steps), .bool (wkOk l ro n x steps)]) [⟨.mat .i64 3 l, 23, .mat⟩, ⟨.ints .i64 ro, 3, .row⟩, ⟨.mat .i64 3 (walkL l ro n x steps), 23, .mat⟩, ⟨.ints .i64 (walkR l ro n x steps), 3, .row⟩]) := by
  unfold VC_impl_WalkAfter
  have no : wkOk l ro n x steps = false → ∀ J, retG 2 (.tup [.agg [.row 2 (numW l ro n x steps n), .row 3 (numW l ro n x steps n)], .int .i64 (walkA l ro n x steps), .bool (wkOk l ro n x steps)]) [⟨.mat .i64 3 l, 23, .mat⟩, ⟨.ints .i64 ro, 3, .row⟩, ⟨.mat .i64 3 (walkL l ro n x steps), 23, .mat⟩, ⟨.ints .i64 (walkR l ro n x steps), 3, .row⟩]
      (.tup [.agg [.raw (.slice none 0 0), .raw (.slice none 0 0)], .int .i64 0, .lit false]) (⟨.mat .i64 3 l, 23, .mat⟩ :: ⟨.ints .i64 ro, 3, .row⟩ :: J) := fun hn J => by
    obtain ⟨w1, w2, w3, w4, _⟩ := walk_no hn n
    exact retG_tn hn w2 w1 w1 w3 w4
  refine ⟨⟨h⟩, fun h1 => no (wk_n1 h1) _, fun h1 => ⟨⟨h⟩, fun h2 => no (wk_n2 h2) _, fun h2 => ⟨trivial, ⟨h.2.1⟩, ⟨trivial⟩, fun h3 => no (wk_n3 h3) _, fun h3 => ?_⟩⟩⟩
  have hrt := rt_of h1 h2
  have hy := wk_y hrt h3
  obtain ⟨w1, w2, w3, w4, _⟩ := walk_yes hy n
  rw [w1, w2, w3, w4]
  obtain ⟨hr, hs1, hs2⟩ := wk_bd hy
  obtain ⟨hw, hm, hn1, hn2⟩ := okW_of h.1 hr
  have q := fun k => q0_w hw (by omega) k
  simp only [at_iff]
  refine ⟨⟨trivial, by simp, ⟨by simp, by simp, by simp, by simp [wA, wR, wS, q0, h.1], trivial⟩, trivial⟩, ⟨Int.le_refl _, hs1⟩, fun a ha => ⟨fun hc => ?_, fun hc => ?_⟩⟩
  · have hc := of_decide_eq_true hc
    have e1 : IntKind.wrap .i64 (a + 1) = a + 1 := wrap64_in (by omega)
    have e2 : (a + 1).toNat = a.toNat + 1 := by omega
    obtain ⟨q1, q2, q3, q4⟩ := q a.toNat
    rw [e1, e2, (wS_succ l x (q0 ro) a.toNat).1, (wS_succ l x (q0 ro) a.toNat).2]
    simp only [q4, true_and, and_self]
    exact ⟨q3, ⟨by omega, by omega⟩, by omega⟩
  · have hc := of_decide_eq_false hc
    have e : a.toNat = steps.toNat := by omega
    rw [e]
    obtain ⟨q1, q2, q3, q4⟩ := q steps.toNat
    simp only [q4, q3, true_and, and_self]
    exact retG_ty3 hy q1 h.1 h.1 rfl (by rw [h.1, ← hm, q2])
theorem wS_one (l : List (List Int)) (x : Int) (ro : List Int) : wA l x ro (1 : Int).toNat = atNext l x ro ∧ wR l x ro (1 : Int).toNat = roNext l x ro := ⟨rfl, rfl⟩
theorem wk_one {l : List (List Int)} {ro : List Int} {n : Nat} {x : Int} : wkOk l ro n x 1 = rtOk l ro n x := by
  unfold wkOk
  rw [show inB 1 0 3000 = true from rfl, Bool.and_true]
theorem vc_spec_StepRoute (x : Int) (n m : Nat) (l : List (List Int)) (ro : List Int) (h : l.length = n ∧ ro.length = m ∧ smallM l ∧ m ≤ 2000000) :
    VC_spec_StepRoute x n m l ro (retG 2 (.tup [.agg [.row 2 (numW l ro n x 1 n), .row 3 (numW l ro n x 1 n)], .int .i64 (walkA l ro n x 1), .bool (wkOk l ro n x 1)]) [⟨.mat .i64 3 l, 23, .mat⟩, ⟨.ints .i64 ro, 3, .row⟩, ⟨.mat .i64 3 (walkL l ro n x 1), 23, .mat⟩, ⟨.ints .i64 (walkR l ro n x 1), 3, .row⟩]) := by
  unfold VC_spec_StepRoute
  refine ⟨⟨h⟩, fun hn => ?_, fun hy => ?_⟩
  · simp only [Bool.not_eq_true'] at hn
    rw [← wk_one] at hn
    obtain ⟨w1, w2, w3, w4, _⟩ := walk_no hn n
    exact retG_tn hn w2 w1 w1 w3 w4
  · simp only [Bool.not_eq_false'] at hy
    obtain ⟨hw, hm, hn1, hn2⟩ := okW_of h.1 hy
    rw [← wk_one] at hy
    obtain ⟨w1, w2, w3, w4, _⟩ := walk_yes hy n
    rw [w1, w2, w3, w4]
    exact ⟨⟨h.1, h.2.1, h.2.2.1, h.2.2.2, by omega, okW_rows hw⟩, ⟨h.1, h.2.1, hw⟩, retG_ty4 hy (wS_one l x ro).1.symm rfl (by omega) rfl (wS_one l x ro).2.symm⟩
theorem vc_impl_StepRoute (x : Int) (n m : Nat) (l : List (List Int)) (ro : List Int) (h : l.length = n ∧ ro.length = m ∧ smallM l ∧ m ≤ 2000000) :
    VC_impl_StepRoute x n m l ro (retG 2 (.tup [.agg [.row 2 (numW l ro n x 1 n), .row 3 (numW l ro n x 1 n)], .int .i64 (walkA l ro n x 1), .bool (wkOk l ro n x 1)]) [⟨.mat .i64 3 l, 23, .mat⟩, ⟨.ints .i64 ro, 3, .row⟩, ⟨.mat .i64 3 (walkL l ro n x 1), 23, .mat⟩, ⟨.ints .i64 (walkR l ro n x 1), 3, .row⟩]) := by
  unfold VC_impl_StepRoute
  exact ⟨⟨h⟩, retG_tb4⟩
/-! ### tracks -/
theorem vc_spec_roTrack (x steps : Int) (n m : Nat) (l : List (List Int)) (ro : List Int) (h : l.length = n ∧ ro.length = m ∧ smallM l ∧ m ≤ 2000000 ∧ wkOk l ro n x steps = true) :
    VC_spec_roTrack x steps n m l ro (retG 2 (.row 2 steps.toNat) [⟨.mat .i64 3 l, 23, .mat⟩, ⟨.ints .i64 ro, 3, .row⟩, ⟨.ints .i64 (trk l x ro steps.toNat), 3, .row⟩]) := by
  obtain ⟨g1, g2, g3, g4, hy⟩ := h
  obtain ⟨hr, hs1, hs2⟩ := wk_bd hy
  obtain ⟨hw, hm, hn1, hn2⟩ := okW_of g1 hr
  unfold VC_spec_roTrack
  have e0 : (steps - steps).toNat = 0 := by omega
  refine ⟨⟨g1, g2, g3, g4, by omega, okW_rows hw⟩, ⟨trivial, by rw [e0]; simp [wA, wS], ⟨by simp, by simp, by simp [g1, g2], by rw [e0]; simp [trk], by simp, by rw [e0]; simp [wR, wS], trivial⟩, trivial⟩, ⟨hs1, Int.le_refl _⟩, fun a ha => ⟨fun hc => ?_, fun hc => ?_⟩⟩
  · have hc := of_decide_eq_true hc
    have e1 : IntKind.wrap .i64 (a - 1) = a - 1 := wrap64_in (by omega)
    have e2 : (steps - (a - 1)).toNat = (steps - a).toNat + 1 := by omega
    have e3 : List.take (1 * 1) [wA l x ro ((steps - a).toNat + 1)] = [wA l x ro ((steps - a).toNat + 1)] := rfl
    rw [e1, e2, (wS_succ l x ro (steps - a).toNat).1, (wS_succ l x ro (steps - a).toNat).2, e3, ← trk_succ]
    refine ⟨⟨rfl, wR_len .., okW_at hw _⟩, ⟨⟨by rw [trk_len, Nat.mul_one], by simp⟩, by omega, by omega⟩, ⟨trivial, by simp, by simp, trivial⟩, ⟨⟨by omega, by omega⟩, by omega⟩⟩
  · have hc := of_decide_eq_false hc
    have e : (steps - a).toNat = steps.toNat := by omega
    rw [e]
    exact retG_tr3 rfl rfl
theorem tk_no {l : List (List Int)} {ro : List Int} {n : Nat} {x steps : Int} (h : tkOk l ro n x steps = false) : numT l ro n x steps = 0 ∧ trackR l ro n x steps = [] := by
  unfold numT trackR
  rw [h]; exact ⟨rfl, rfl⟩
theorem tk_yes {l : List (List Int)} {ro : List Int} {n : Nat} {x steps : Int} (h : tkOk l ro n x steps = true) : numT l ro n x steps = steps.toNat ∧ trackR l ro n x steps = trk l x ro steps.toNat := by
  unfold numT trackR
  rw [h]; exact ⟨rfl, rfl⟩
theorem vc_spec_TrackOfWalk (x steps : Int) (n m : Nat) (l : List (List Int)) (ro : List Int) (h : l.length = n ∧ ro.length = m ∧ smallM l ∧ m ≤ 2000000) :
    VC_spec_TrackOfWalk x steps n m l ro (retG 2 (.tup [.row 2 (numT l ro n x steps), .bool (tkOk l ro n x steps)]) [⟨.mat .i64 3 l, 23, .mat⟩, ⟨.ints .i64 ro, 3, .row⟩, ⟨.ints .i64 (trackR l ro n x steps), 3, .row⟩]) := by
  unfold VC_spec_TrackOfWalk
  have no : tkOk l ro n x steps = false → ∀ J, retG 2 (.tup [.row 2 (numT l ro n x steps), .bool (tkOk l ro n x steps)]) [⟨.mat .i64 3 l, 23, .mat⟩, ⟨.ints .i64 ro, 3, .row⟩, ⟨.ints .i64 (trackR l ro n x steps), 3, .row⟩]
      (.tup [.raw (.slice none 0 0), .lit false]) (⟨.mat .i64 3 l, 23, .mat⟩ :: ⟨.ints .i64 ro, 3, .row⟩ :: J) := fun hn J => retG_kn hn (tk_no hn).1 (tk_no hn).2
  have yes : wkOk l ro n x steps = true → steps ≤ 200 → tkOk l ro n x steps = true := fun h1 h2 => by
    unfold tkOk; rw [h1]; simp [h2]
  have no1 : wkOk l ro n x steps = false → tkOk l ro n x steps = false := fun h1 => by unfold tkOk; rw [h1]; rfl
  have no2 : 200 < steps → tkOk l ro n x steps = false := fun h2 => by
    unfold tkOk
    have : decide (steps ≤ 200) = false := decide_eq_false (by omega)
    rw [this, Bool.and_false]
  refine ⟨⟨h⟩, fun hn => no (no1 (by simpa using hn)) _, fun hy => ⟨fun h2 => no (no2 (of_decide_eq_true h2)) _, fun h2 => ?_⟩⟩
  have hy : wkOk l ro n x steps = true := by simpa using hy
  have h2 := of_decide_eq_false h2
  have ht := yes hy (by omega)
  exact ⟨⟨h.1, h.2.1, h.2.2.1, h.2.2.2, hy⟩, retG_ky3 ht (tk_yes ht).1.symm (tk_yes ht).2.symm⟩
theorem vc_impl_TrackOfWalk (x steps : Int) (n m : Nat) (l : List (List Int)) (ro : List Int) (h : l.length = n ∧ ro.length = m ∧ smallM l ∧ m ≤ 2000000) :
    VC_impl_TrackOfWalk x steps n m l ro (retG 2 (.tup [.row 2 (numT l ro n x steps), .bool (tkOk l ro n x steps)]) [⟨.mat .i64 3 l, 23, .mat⟩, ⟨.ints .i64 ro, 3, .row⟩, ⟨.ints .i64 (trackR l ro n x steps), 3, .row⟩]) := by
  unfold VC_impl_TrackOfWalk
  have no : tkOk l ro n x steps = false → ∀ J, retG 2 (.tup [.row 2 (numT l ro n x steps), .bool (tkOk l ro n x steps)]) [⟨.mat .i64 3 l, 23, .mat⟩, ⟨.ints .i64 ro, 3, .row⟩, ⟨.ints .i64 (trackR l ro n x steps), 3, .row⟩]
      (.tup [.raw (.slice none 0 0), .lit false]) (⟨.mat .i64 3 l, 23, .mat⟩ :: ⟨.ints .i64 ro, 3, .row⟩ :: J) := fun hn J => retG_kn hn (tk_no hn).1 (tk_no hn).2
  have no1 : wkOk l ro n x steps = false → tkOk l ro n x steps = false := fun h1 => by unfold tkOk; rw [h1]; rfl
  have no3 : (!inB steps 0 200) = true → tkOk l ro n x steps = false := fun h3 => by
    simp only [Bool.not_eq_true'] at h3
    rw [inB_ne] at h3
    unfold tkOk wkOk
    by_cases hs : 0 ≤ steps
    · have : decide (steps ≤ 200) = false := decide_eq_false (by omega)
      rw [this, Bool.and_false]
    · have : inB steps 0 3000 = false := inB_ne.2 (by omega)
      rw [this, Bool.and_false]; rfl
  refine ⟨⟨h⟩, fun h1 => no (no1 (wk_n1 h1)) _, fun h1 => ⟨⟨h⟩, fun h2 => no (no1 (wk_n2 h2)) _, fun h2 => ⟨trivial, ⟨h.2.1⟩, ⟨trivial⟩, fun h3 => no (no3 h3) _, fun h3 => ?_⟩⟩⟩
  have hrt := rt_of h1 h2
  simp only [Bool.not_eq_false'] at h3
  have hs := inB_eq.1 h3
  have hy : wkOk l ro n x steps = true := by
    unfold wkOk
    rw [hrt, inB_eq.2 ⟨hs.1, by omega⟩]; rfl
  have ht : tkOk l ro n x steps = true := by
    unfold tkOk
    rw [hy]; simp [hs.2]
  obtain ⟨hw, hm, hn1, hn2⟩ := okW_of h.1 hrt
  have q := fun k => q0_w hw (by omega) k
  refine ⟨⟨Int.le_refl _, hs.1, by omega⟩, ⟨trivial, by simp, ⟨by simp, by simp, by simp [wA, wR, wS, q0, h.1], by simp [trk], trivial⟩, trivial⟩, ⟨Int.le_refl _, hs.1⟩, fun a ha => ⟨fun hc => ?_, fun hc => ?_⟩⟩
  · have hc := of_decide_eq_true hc
    have e1 : IntKind.wrap .i64 (a + 1) = a + 1 := wrap64_in (by omega)
    have e2 : (a + 1).toNat = a.toNat + 1 := by omega
    obtain ⟨q1, q2, q3, q4⟩ := q a.toNat
    have e3 : List.take (1 * 1) [wA l x (q0 ro) (a.toNat + 1)] = [wA l x (q0 ro) (a.toNat + 1)] := rfl
    rw [e1, e2, (wS_succ l x (q0 ro) a.toNat).1, (wS_succ l x (q0 ro) a.toNat).2, e3, ← trk_succ]
    exact ⟨⟨rfl, q4, q3⟩, ⟨⟨by rw [trk_len, Nat.mul_one], by simp⟩, by omega, by omega⟩, ⟨trivial, by simp, by simp, trivial⟩, ⟨⟨by omega, by omega⟩, by omega⟩⟩
  · have hc := of_decide_eq_false hc
    have e : a.toNat = steps.toNat := by omega
    rw [e]
    refine retG_ky3 ht (tk_yes ht).1.symm ?_
    rw [(tk_yes ht).2, trk_q0 hw (by omega)]
/-! ### visits -/
theorem vis_bd {l : List (List Int)} {x : Int} {ro : List Int} : ∀ (k i : Nat), 0 ≤ (vis l x ro k).getD i 0 ∧ (vis l x ro k).getD i 0 ≤ (k : Nat)
  | 0, i => by
    have : (vis l x ro 0).getD i 0 = 0 := by
      simp only [vis, List.getD_eq_getElem?_getD, List.getElem?_replicate]
      split <;> rfl
    rw [this]; omega
  | k + 1, i => by
    have h1 := vis_bd (l := l) (x := x) (ro := ro) k i
    have h2 := vis_bd (l := l) (x := x) (ro := ro) k (wA l x ro (k + 1)).toNat
    simp only [vis]
    rw [List.getD_eq_getElem?_getD, List.getElem?_set]
    split
    · split
      · simp only [Option.getD_some]; omega
      · simp only [Option.getD_none]; omega
    · rw [← List.getD_eq_getElem?_getD]; omega
theorem vc_spec_VisitsOfWalk (x steps : Int) (n m : Nat) (l : List (List Int)) (ro : List Int) (h : l.length = n ∧ ro.length = m ∧ smallM l ∧ m ≤ 2000000) :
    VC_spec_VisitsOfWalk x steps n m l ro (retG 2 (.tup [.row 2 (numW l ro n x steps n), .bool (wkOk l ro n x steps)]) [⟨.mat .i64 3 l, 23, .mat⟩, ⟨.ints .i64 ro, 3, .row⟩, ⟨.ints .i64 (visitR l ro n x steps), 3, .row⟩]) := by
  unfold VC_spec_VisitsOfWalk
  refine ⟨⟨h⟩, fun hn => ?_, fun hy => ?_⟩
  · simp only [Bool.not_eq_true'] at hn
    obtain ⟨w1, _, _, _, w5⟩ := walk_no hn n
    exact retG_kn hn w1 w5
  · simp only [Bool.not_eq_false'] at hy
    obtain ⟨w1, _, _, _, w5⟩ := walk_yes hy n
    rw [w1, w5]
    obtain ⟨hr, hs1, hs2⟩ := wk_bd hy
    obtain ⟨hw, hm, hn1, hn2⟩ := okW_of h.1 hr
    refine ⟨⟨by omega, by omega, by omega⟩, ⟨h.1, h.2.1, h.2.2.1, h.2.2.2, hy⟩, ⟨trivial, by simp [h.1], ⟨by simp, by simp, by simp [vis, h.1], by simp, trivial⟩, trivial⟩, ⟨Int.le_refl _, hs1⟩, fun a ha => ⟨fun hc => ?_, fun hc => ?_⟩⟩
    · have hc := of_decide_eq_true hc
      have e1 : IntKind.wrap .i64 (a + 1) = a + 1 := wrap64_in (by omega)
      have e2 : (a + 1).toNat = a.toNat + 1 := by omega
      have hk : a.toNat < steps.toNat := by omega
      have hb := vis_bd (l := l) (x := x) (ro := ro) a.toNat (wA l x ro (a.toNat + 1)).toNat
      have hat := okW_at hw (a.toNat + 1)
      rw [trk_get hk, e1, e2, trk_len, vis_len, wrap64_in (x := (vis l x ro a.toNat).getD (wA l x ro (a.toNat + 1)).toNat 0 + 1) (by omega)]
      have hA := hat.1
      have hB := hat.2.1
      refine ⟨⟨ha.1, hc⟩, ⟨hk⟩, ⟨hA, hB⟩, ⟨by omega⟩, ⟨hA, hB⟩, ⟨by omega⟩, ⟨trivial, by simp, by simp [vis], trivial⟩, ⟨⟨by omega, by omega⟩, by omega⟩⟩
    · have hc := of_decide_eq_false hc
      have e : a.toNat = steps.toNat := by omega
      rw [e]
      exact retG_ky2 hy h.1 rfl
theorem vc_impl_VisitsOfWalk (x steps : Int) (n m : Nat) (l : List (List Int)) (ro : List Int) (h : l.length = n ∧ ro.length = m ∧ smallM l ∧ m ≤ 2000000) :
    VC_impl_VisitsOfWalk x steps n m l ro (retG 2 (.tup [.row 2 (numW l ro n x steps n), .bool (wkOk l ro n x steps)]) [⟨.mat .i64 3 l, 23, .mat⟩, ⟨.ints .i64 ro, 3, .row⟩, ⟨.ints .i64 (visitR l ro n x steps), 3, .row⟩]) := by
  unfold VC_impl_VisitsOfWalk
  have no : wkOk l ro n x steps = false → ∀ J, retG 2 (.tup [.row 2 (numW l ro n x steps n), .bool (wkOk l ro n x steps)]) [⟨.mat .i64 3 l, 23, .mat⟩, ⟨.ints .i64 ro, 3, .row⟩, ⟨.ints .i64 (visitR l ro n x steps), 3, .row⟩]
      (.tup [.raw (.slice none 0 0), .lit false]) (⟨.mat .i64 3 l, 23, .mat⟩ :: ⟨.ints .i64 ro, 3, .row⟩ :: J) := fun hn J => by
    obtain ⟨w1, _, _, _, w5⟩ := walk_no hn n
    exact retG_kn hn w1 w5
  refine ⟨⟨h⟩, fun h1 => no (wk_n1 h1) _, fun h1 => ⟨⟨h⟩, fun h2 => no (wk_n2 h2) _, fun h2 => ⟨trivial, ⟨h.2.1⟩, ⟨trivial⟩, fun h3 => no (wk_n3 h3) _, fun h3 => ?_⟩⟩⟩
  have hrt := rt_of h1 h2
  have hy := wk_y hrt h3
  obtain ⟨w1, _, _, _, w5⟩ := walk_yes hy n
  rw [w1, w5]
  obtain ⟨hr, hs1, hs2⟩ := wk_bd hy
  obtain ⟨hw, hm, hn1, hn2⟩ := okW_of h.1 hr
  have q := fun k => q0_w hw (by omega) k
  refine ⟨⟨by omega, by omega, by omega⟩, ⟨trivial, by simp [h.1], ⟨by simp, by simp, by simp [wA, wR, wS, q0, h.1], by simp [vis, h.1], trivial⟩, trivial⟩, ⟨Int.le_refl _, hs1⟩, fun a ha => ⟨fun hc => ?_, fun hc => ?_⟩⟩
  · have hc := of_decide_eq_true hc
    have e1 : IntKind.wrap .i64 (a + 1) = a + 1 := wrap64_in (by omega)
    have e2 : (a + 1).toNat = a.toNat + 1 := by omega
    obtain ⟨q1, q2, q3, q4⟩ := q a.toNat
    have hb := vis_bd (l := l) (x := x) (ro := q0 ro) a.toNat (wA l x (q0 ro) (a.toNat + 1)).toNat
    have hat := (q (a.toNat + 1)).2.2.1
    have hA := hat.1
    have hB := hat.2.1
    rw [e1, e2, (wS_succ l x (q0 ro) a.toNat).1, (wS_succ l x (q0 ro) a.toNat).2, vis_len, wrap64_in (x := (vis l x (q0 ro) a.toNat).getD (wA l x (q0 ro) (a.toNat + 1)).toNat 0 + 1) (by omega)]
    exact ⟨⟨rfl, q4, q3⟩, ⟨hA, hB⟩, ⟨by omega⟩, ⟨hA, hB⟩, ⟨by omega⟩, ⟨trivial, by simp, by simp [vis], trivial⟩, ⟨⟨by omega, by omega⟩, by omega⟩⟩
  · have hc := of_decide_eq_false hc
    have e : a.toNat = steps.toNat := by omega
    rw [e, vis_q0 hw (by omega)]
    exact retG_ky3 hy h.1 rfl
/-! ### what the laws ask -/
theorem small_nil : smallM [] := ⟨by simp, fun r hr => by cases hr⟩
theorem law_walk {l : List (List Int)} {ro : List Int} {x steps : Int} (hs : smallM l) : (walkL l ro l.length x steps).length = numW l ro l.length x steps l.length ∧ (walkR l ro l.length x steps).length = numW l ro l.length x steps l.length ∧ (visitR l ro l.length x steps).length = numW l ro l.length x steps l.length ∧
    smallM (walkL l ro l.length x steps) ∧ numW l ro l.length x steps l.length ≤ 2000000 := by
  cases h : wkOk l ro l.length x steps with
  | false =>
    obtain ⟨w1, w2, w3, w4, w5⟩ := walk_no h l.length
    rw [w1, w3, w4, w5]
    exact ⟨rfl, rfl, rfl, small_nil, by omega⟩
  | true =>
    obtain ⟨w1, w2, w3, w4, w5⟩ := walk_yes h l.length
    rw [w1, w3, w4, w5]
    obtain ⟨hw, hm, _⟩ := okW_of rfl (wk_bd h).1
    exact ⟨rfl, by rw [wR_len, hm], vis_len .., hs, hs.1⟩
theorem law_track {l : List (List Int)} {ro : List Int} {n : Nat} {x steps : Int} : (trackR l ro n x steps).length = numT l ro n x steps ∧ numT l ro n x steps ≤ 2000000 := by
  cases h : tkOk l ro n x steps with
  | false =>
    rw [(tk_no h).1, (tk_no h).2]
    exact ⟨rfl, by omega⟩
  | true =>
    rw [(tk_yes h).1, (tk_yes h).2, trk_len]
    have : steps ≤ 200 := by
      unfold tkOk at h
      simp only [Bool.and_eq_true, decide_eq_true_eq] at h
      exact h.2
    exact ⟨rfl, by omega⟩
end Go.Vi
