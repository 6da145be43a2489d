/- Arguments opened: slices of structs of integers, and of integers. -/
import Derived.Test.YtpkokghbkamelaaVih
import Derived.Deep.Slices
namespace Go.Vi
open Go.Joins Go.ChangeShapes Go.WideShapes Go.RowKit Go.Deep
section
variable {H : Type} {enc : TypeId × Value -> H} {P : Program} {w : World} {base : Nat} {spare : Nat -> Bool} {held : Bool}

/-- Memory of arguments alone: they may share blocks, as they are read alone. -/
theorem MRel.args {ρ : List Place} {m : List Blk} {w : World} (hl : ρ.length = m.length) (ha : ∀ (i : Nat) (blk : Blk), m[i]? = some blk -> blk.kind.isArg = true) (hb : ∀ (i : Nat) (blk : Blk) (p : Place), m[i]? = some blk -> ρ[i]? = some p -> BRel ρ p blk w) : MRel ρ m w :=
 ⟨hl, hb, fun b b' blk blk' p p' h h' _ _ _ _ _ _ _ hf => by rw [ha b blk h, ha b' blk' h'] at hf; cases hf⟩
theorem BRel.ints {ρ ρ' : List Place} {p : Place} {k : IntKind} {l : List Int} {e : TypeId} {r : Kind} {w : World} (h : BRel ρ p ⟨.ints k l, e, r⟩ w) : BRel ρ' p ⟨.ints k l, e, r⟩ w :=
 h.sel (τ := fun _ => none) fun _ _ _ hn => by cases hn

theorem addr_plus (b o n : Nat) : (⟨b, o, none⟩ : Addr).add n = ⟨b, o + n, none⟩ := by
 unfold Addr.add
 split
 ·rename_i h; rw [h]; rfl
 ·rfl
theorem rep_str {ρ : List Place} (s : ByteArray) : Rep ρ (.str s.data.toList) (.string s) := by simp only [Rep, ofL_data]
theorem rep_int {ρ : List Place} (k : IntKind) (n : Int) : Rep ρ (.int k n) (.int k n) := by simp only [Rep]
theorem rep_bool {ρ : List Place} (b : Bool) : Rep ρ (.bool b) (.bool b) := by simp only [Rep]
theorem rep_agg {ρ : List Place} {cs : List V} {xs : List Value} (h : RepL ρ cs xs) : Rep ρ (.agg cs) (.agg xs.toArray) := by
 simp only [Rep]
 exact ⟨xs, rfl, h⟩
theorem repL_cons {ρ : List Place} {v : V} {x : Value} {vs : List V} {xs : List Value} (h : Rep ρ v x) (hs : RepL ρ vs xs) : RepL ρ (v :: vs) (x :: xs) := by
 simp only [RepL]
 exact ⟨x, xs, rfl, h, hs⟩
theorem repL_nil {ρ : List Place} : RepL ρ [] [] := by simp only [RepL]
theorem argsAll {m : List Blk} (h : (m.all fun b => b.kind.isArg) = true) : ∀ (i : Nat) (blk : Blk), m[i]? = some blk -> blk.kind.isArg = true := fun i blk hb => by
 rw [List.all_eq_true] at h
 exact h blk (List.mem_of_getElem? hb)
theorem MRel.args1 {p : Place} {b : Blk} {w : World} (ha : b.kind.isArg = true) (hb : BRel [p] p b w) : MRel [p] [b] w :=
 MRel.args rfl (argsAll (by simp [ha])) fun i blk q h hq => by
  cases i with
  | zero => simp at h hq; subst h; subst hq; exact hb
  | succ i => simp at h
theorem rows_bd {n k : Nat} {l : List Int} (h : l.length = n * k /\ n <= maxLen) : l.length = n * k /\ (n : Int) <= 9223372036854775807 := by
 unfold maxLen at h
 omega
theorem mat_bd {n : Nat} {l : List (List Int)} (h : l.length = n /\ n <= maxLen /\ ∀ r ∈ l, r.length <= maxLen) : l.length = n /\ (n : Int) <= 9223372036854775807 /\ ∀ r ∈ l, (r.length : Int) <= 9223372036854775807 := by
 unfold maxLen at h
 refine ⟨h.1, by omega, fun r hr => ?_⟩
 have := h.2.2 r hr
 omega
/-- One element. -/
theorem trod_ints {e : TypeId} {fs : Array Field} {n : Nat} {cs : List Value} {y : DataW H × List MemPlace} (he : P.underlying e = some (.struct fs)) (hone : oneCellFields P fs = true) (hC : P.cellsOf e = fs.size) (hint : ∀ (j : Nat) (f : Field), fs[j]? = some f -> P.underlying f.type = some (.int .i64))
  (h : DataW.trod enc P w base spare held n e cs = some y) : ∃ l : List Int, l.length = fs.size /\ cs = l.map (Value.int .i64) := by
 obtain ⟨xs, m, _, _, hlen, _, hg⟩ := DataW.trod_struct he h
 have each : ∀ j, j < fs.size -> ∃ z : Int, cs[j]? = some (.int .i64 z) := by
  intro j hj
  have hf : fs[j]? = some fs[j] := Array.getElem?_eq_getElem hj
  obtain ⟨ho, hk⟩ := hone_of hone j fs[j] hf
  have h1 := hg j fs[j] hf
  rw [ho, hk] at h1
  have hjl : j < cs.length := by rw [hlen, hC]; exact hj
  have hone' : (cs.drop j).take 1 = [cs[j]] := by
   rw [List.drop_eq_getElem_cons hjl]
   rfl
  rw [hone'] at h1
  cases hx : xs[j]? with
  | none =>
   rw [hx] at h1
   have hxl : xs.length = fs.size := by assumption
   have := List.getElem?_eq_none_iff.1 hx
   omega
  | some x =>
   rw [hx] at h1
   obtain ⟨z, e0, _⟩ := DataW.trod_int (hint j fs[j] hf) h1
   simp at e0
   exact ⟨z, by rw [List.getElem?_eq_getElem hjl, e0]⟩
 refine ⟨cs.map fun v => match v with | .int _ z => z | _ => 0, by simp [hlen, hC], List.ext_getElem? fun j => ?_⟩
 by_cases hj : j < fs.size
 ·obtain ⟨z, hz⟩ := each j hj
  simp [hz]
 ·have : cs.length <= j := by rw [hlen, hC]; omega
  simp [List.getElem?_eq_none this]

/-- A slice that came in, of elements of k integers each. -/
theorem open_rows_of {t e : TypeId} {k : Nat} {n : Nat} {v : Value} {y : DataW H × List MemPlace} (ht : P.underlying t = some (.slice e)) (hC : P.cellsOf e = k) (hk : 0 < k)
  (hel : ∀ (n : Nat) (cs : List Value) (y : DataW H × List MemPlace), DataW.trod enc P w base spare held n e cs = some y -> ∃ l : List Int, l.length = k /\ cs = l.map (Value.int .i64))
  (h : DataW.trod enc P w base spare held n t [v] = some y) (e' : TypeId) :
  ∃ (p : Place) (len : Nat) (l : List Int), l.length = len * k /\ len <= maxLen /\ Rep [p] (.row 0 len) v /\ BRel [p] p ⟨.ints .i64 l, e', .arg k⟩ w := by
 rcases open_slice ht h with ⟨h0, _⟩ | ⟨a, len, cap, m, n', D, Pl, h0, hb, hl, hm, hmm, _, hx⟩
 ·injection h0 with h0
  exact ⟨⟨0, 0, true, 0, none, []⟩, 0, [], by simp, Nat.zero_le _, (by show ∃ p, _; exact ⟨_, rfl, .inl ⟨rfl, rfl, h0⟩⟩), .inr (.inl ⟨rfl, rfl, rfl, fun h => by cases h⟩)⟩
 ·injection h0 with h0
  have hlm : len <= m := by rw [hmm]; split <;> omega
  by_cases hz : len = 0
  ·subst hz
   exact ⟨⟨0, cap, true, 0, some a, []⟩, 0, [], by simp, Nat.zero_le _, (by show ∃ p, _; exact ⟨_, rfl, .inl ⟨rfl, rfl, h0⟩⟩), .inr (.inl ⟨rfl, rfl, rfl, fun h => by cases h⟩)⟩
  ·have each : ∀ i, i < len -> ∃ l : List Int, l.length = k /\ ∀ q, q < k -> w.cell? ((a.add (i * k)).add q) = some (.int .i64 (l.getD q 0)) := by
    intro i hi
    obtain ⟨cs', h1, h2⟩ := hx i (by omega)
    rw [hC] at h1
    obtain ⟨_, hlen, hcell⟩ := World.cells?_some h1
    obtain ⟨l, h3, h4⟩ := hel n' cs' _ h2
    refine ⟨l, h3, fun q hq => ?_⟩
    rw [hcell q hq, h4, List.getElem?_map, getD_some (d := 0) (by omega)]
    rfl
   obtain ⟨F, hF⟩ := choose_lt each
   -- the block
   have hfirst := (hF 0 (by omega)).2 0 hk
   rw [Nat.zero_mul] at hfirst
   have ha00 : (a.add 0).add 0 = a := by simp [Addr.add]
   rw [ha00] at hfirst
   have hblock : a.spot = none /\ ∃ (cur : List Value) (el : TypeId) (fz : Nat × Nat), w.heap[a.block]? = some (.cells cur.toArray el fz) := by
    unfold World.cell? at hfirst
    split at hfirst
    ·rename_i c el fz hc
     split at hfirst
     ·cases hfirst
     ·rename_i hs
      refine ⟨by simpa using hs, c.toList, el, fz, by rw [hc, Array.toArray_toList]⟩
    ·cases hfirst
   obtain ⟨hspot, cur, el, fz, hheap⟩ := hblock
   have hcells : ∀ i q, i < len -> q < k -> cur[a.off + (i * k + q)]? = some (.int .i64 ((F i).getD q 0)) := by
    intro i q hi hq
    have := (hF i hi).2 q hq
    have hadd : (a.add (i * k)).add q = ⟨a.block, a.off + (i * k + q), none⟩ := by
     obtain ⟨b, o, s⟩ := a
     simp only at hspot
     subst hspot
     by_cases h1 : i * k = 0
     ·rw [h1, show (⟨b, o, none⟩ : Addr).add 0 = ⟨b, o, none⟩ from rfl, Nat.zero_add]
      exact addr_plus b o q
     ·rw [addr_plus b o (i * k), addr_plus b (o + i * k) q, Nat.add_assoc]
    rw [hadd, cell_of_row w a.block _ cur.toArray el fz hheap] at this
    simpa using this
   refine ⟨⟨a.block, cap, false, a.off, none, []⟩, len, (List.range (len * k)).map fun j => (F (j / k)).getD (j % k) 0, by simp, Nat.le_trans hl hm, ?_, .inr (.inr (.inr (.inl ⟨rfl, ⟨rfl, rfl⟩, cur, el, fz, hheap, ?_, by simp only [Cells.toVs, List.length_map, List.length_range]; exact Nat.mul_le_mul_right k hl⟩)))⟩
   ·simp only [Rep]
    refine ⟨_, rfl, .inr ⟨rfl, ?_⟩⟩
    rw [h0]
    obtain ⟨b, o, s⟩ := a
    simp only at hspot
    subst hspot
    simp [addrOf]
   ·simp only [Cells.toVs, List.length_map, List.length_range]
    have hall : ∀ j, j < len * k -> cur[a.off + j]? = some (.int .i64 ((F (j / k)).getD (j % k) 0)) := by
     intro j hj
     have h1 : j / k < len := Nat.div_lt_of_lt_mul (by rw [Nat.mul_comm]; exact hj)
     have h2 : j % k < k := Nat.mod_lt _ hk
     have := hcells (j / k) (j % k) h1 h2
     rwa [show j / k * k + j % k = j by rw [Nat.mul_comm]; exact Nat.div_add_mod j k] at this
    refine RepL.of ?_ fun j u x hu hx => ?_
    ·have hlast := hall (len * k - 1) (by have : 0 < len * k := Nat.mul_pos (by omega) hk; omega)
     have := (List.getElem?_eq_some_iff.1 hlast).1
     simp only [List.length_map, List.length_range, List.length_take, List.length_drop]
     have : 0 < len * k := Nat.mul_pos (by omega) hk
     omega
    ·simp only [List.getElem?_map, List.getElem?_take, List.getElem?_drop] at hu hx
     by_cases hj : j < len * k
     ·rw [List.getElem?_range hj] at hu
      rw [if_pos hj, hall j hj] at hx
      simp only [Option.map_some, Option.some.injEq] at hu hx
      subst hu; subst hx
      rfl
     ·rw [if_neg hj] at hx
      cases hx
theorem open_rows {t e : TypeId} {fs : Array Field} {n : Nat} {v : Value} {y : DataW H × List MemPlace} (ht : P.underlying t = some (.slice e)) (he : P.underlying e = some (.struct fs)) (hone : oneCellFields P fs = true) (hC : P.cellsOf e = fs.size) (hk : 0 < fs.size)
  (hint : ∀ (j : Nat) (f : Field), fs[j]? = some f -> P.underlying f.type = some (.int .i64)) (h : DataW.trod enc P w base spare held n t [v] = some y) (e' : TypeId) :
  ∃ (p : Place) (len : Nat) (l : List Int), l.length = len * fs.size /\ len <= maxLen /\ Rep [p] (.row 0 len) v /\ BRel [p] p ⟨.ints .i64 l, e', .arg fs.size⟩ w :=
 open_rows_of ht hC hk (fun _ _ _ h => trod_ints he hone hC hint h) h e'
theorem open_rows1 {t e : TypeId} {n : Nat} {v : Value} {y : DataW H × List MemPlace} (ht : P.underlying t = some (.slice e)) (he : P.underlying e = some (.int .i64)) (hC : P.cellsOf e = 1) (h : DataW.trod enc P w base spare held n t [v] = some y) (e' : TypeId) :
  ∃ (p : Place) (len : Nat) (l : List Int), l.length = len * 1 /\ len <= maxLen /\ Rep [p] (.row 0 len) v /\ BRel [p] p ⟨.ints .i64 l, e', .arg 1⟩ w :=
 open_rows_of ht hC (by omega) (fun _ cs _ h => by
  obtain ⟨z, e0, _⟩ := DataW.trod_int he h
  exact ⟨[z], rfl, by simpa using e0⟩) h e'
/-- A row of integers that came in, as a row of a row of rows. -/
theorem toSubArg {ρ : List Place} {p : Place} {kd : IntKind} {row : List Int} {e et : TypeId} {w : World} (h : BRel ρ p ⟨.ints kd row, e, .arg 1⟩ w) : SubOf false kd et p.sub row w := by
 rcases h with h | ⟨hg, _, h1, h2⟩ | ⟨hg, cur, hc, hr, hs, ho, ha⟩ | ⟨hg, _, cur, e2, fz, hc, hr, hroom⟩ | ⟨_, h, _⟩ | ⟨h, _⟩
 ·cases h
 ·exact .inl ⟨hg, by simpa [Cells.toVs] using h1, fun h => by cases h⟩
 ·cases ha
 ·simp only [Cells.toVs, List.length_map] at hr
  have hr' := repL_ints hr
  refine .inr ⟨hg, cur, e2, fz, hc, hr', ?_, fun h => by cases h⟩
  have hroom : (row.map (V.int kd)).length <= p.cap * 1 := hroom
  rw [List.length_map, Nat.mul_one] at hroom
  exact hroom
 ·cases h
 ·cases h
/-- A slice of slices of integers that came in. -/
theorem open_mat {t e1 e2 : TypeId} {n : Nat} {v : Value} {y : DataW H × List MemPlace} (ht : P.underlying t = some (.slice e1)) (he1 : P.underlying e1 = some (.slice e2)) (he2 : P.underlying e2 = some (.int .i64)) (hC1 : P.cellsOf e1 = 1) (hC2 : P.cellsOf e2 = 1)
  (h : DataW.trod enc P w base spare held n t [v] = some y) (e' : TypeId) :
  ∃ (p : Place) (len : Nat) (l : List (List Int)), l.length = len /\ len <= maxLen /\ (∀ r ∈ l, r.length <= maxLen) /\ Rep [p] (.row 0 len) v /\ BRel [p] p ⟨.mat .i64 e2 l, e', .amat⟩ w := by
 rcases open_slice ht h with ⟨h0, _⟩ | ⟨a, len, cap, m, n', D, Pl, h0, hb, hl, hm, hmm, _, hx⟩
 ·injection h0 with h0
  exact ⟨⟨0, 0, true, 0, none, []⟩, 0, [], rfl, Nat.zero_le _, (fun r hr => by cases hr), (by show ∃ p, _; exact ⟨_, rfl, .inl ⟨rfl, rfl, h0⟩⟩), .inr (.inr (.inr (.inr (.inr ⟨rfl, .i64, e2, [], rfl, rfl, (fun i s hs => by cases hs), .inl ⟨rfl, rfl, fun h => by cases h⟩⟩))))⟩
 ·injection h0 with h0
  have hlm : len <= m := by rw [hmm]; split <;> omega
  by_cases hz : len = 0
  ·subst hz
   exact ⟨⟨0, cap, true, 0, some a, []⟩, 0, [], rfl, Nat.zero_le _, (fun r hr => by cases hr), (by show ∃ p, _; exact ⟨_, rfl, .inl ⟨rfl, rfl, h0⟩⟩), .inr (.inr (.inr (.inr (.inr ⟨rfl, .i64, e2, [], rfl, rfl, (fun i s hs => by cases hs), .inl ⟨rfl, rfl, fun h => by cases h⟩⟩))))⟩
  ·-- each row
   have each : ∀ i, i < len -> ∃ q : Value × Place × List Int, w.cell? (a.add i) = some q.1 /\ q.2.2.length <= maxLen /\ q.1 = q.2.1.sub.val q.2.2.length /\ SubOf false .i64 e2 q.2.1.sub q.2.2 w := by
    intro i hi
    obtain ⟨cs', h1, h2⟩ := hx i (by omega)
    rw [hC1, Nat.mul_one] at h1
    obtain ⟨_, hlen, hcell⟩ := World.cells?_some h1
    have hcs : ∃ x, cs' = [x] := by
     match cs', hlen with
     | [x], _ => exact ⟨x, rfl⟩
    obtain ⟨x, rfl⟩ := hcs
    obtain ⟨p, ln, l, g1, g2, g3, g4⟩ := open_rows1 he1 he2 hC2 h2 e'
    rw [Nat.mul_one] at g1
    obtain ⟨k1, _⟩ := Sub.val_row (p := p) rfl g3
    have hc0 := hcell 0 (by omega)
    refine ⟨⟨x, p, l⟩, ?_, by simp only; omega, by simp only; rw [g1]; exact k1, toSubArg g4⟩
    have ha0 : (a.add i).add 0 = a.add i := by simp [Addr.add]
    rw [ha0] at hc0
    simpa using hc0
   have inh : Inhabited (Value × Place × List Int) := ⟨(.bool false, ⟨0, 0, true, 0, none, []⟩, [])⟩
   obtain ⟨F, hF⟩ := choose_lt each
   have hfirst := (hF 0 (by omega)).1
   have ha00 : a.add 0 = a := by simp [Addr.add]
   rw [ha00] at hfirst
   have hblock : a.spot = none /\ ∃ (cur : List Value) (el : TypeId) (fz : Nat × Nat), w.heap[a.block]? = some (.cells cur.toArray el fz) := by
    unfold World.cell? at hfirst
    split at hfirst
    ·rename_i c el fz hc
     split at hfirst
     ·cases hfirst
     ·rename_i hs
      refine ⟨by simpa using hs, c.toList, el, fz, by rw [hc, Array.toArray_toList]⟩
    ·cases hfirst
   obtain ⟨hspot, cur, el, fz, hheap⟩ := hblock
   obtain ⟨b, o, s⟩ := a
   simp only at hspot
   subst hspot
   have hcells : ∀ i, i < len -> cur[o + i]? = some (F i).1 := by
    intro i hi
    have := (hF i hi).1
    rw [addr_plus b o i, cell_of_row w b _ cur.toArray el fz hheap] at this
    simpa using this
   have hsubs : ∀ (i : Nat) (s : Sub), ((List.range len).map fun i => (F i).2.1.sub)[i]? = some s -> i < len /\ s = (F i).2.1.sub := fun i s hs => by
    rw [List.getElem?_map] at hs
    by_cases hi : i < len
    ·rw [List.getElem?_range hi] at hs
     injection hs with hs
     exact ⟨hi, hs.symm⟩
    ·rw [List.getElem?_eq_none (by simpa using hi)] at hs
     cases hs
   have hrows : ∀ i, i < len -> ((List.range len).map fun i => (F i).2.2).getD i [] = (F i).2.2 := fun i hi => by
    rw [List.getD_eq_getElem?_getD, List.getElem?_map, List.getElem?_range hi]
    rfl
   refine ⟨⟨b, cap, false, o, none, (List.range len).map fun i => (F i).2.1.sub⟩, len, (List.range len).map fun i => (F i).2.2, by simp, Nat.le_trans hl hm, fun r hr => ?_, ?_, .inr (.inr (.inr (.inr (.inr ⟨rfl, .i64, e2, _, rfl, by simp, fun i s hs => ?_, .inr ⟨rfl, cur, el, fz, hheap, fun i s hs => ?_, fun h => by cases h⟩⟩))))⟩
   ·obtain ⟨i, hi, rfl⟩ := List.mem_map.1 hr
    exact (hF i (List.mem_range.1 hi)).2.1
   ·simp only [Rep]
    refine ⟨_, rfl, .inr ⟨rfl, ?_⟩⟩
    rw [h0]
    simp [addrOf]
   ·obtain ⟨hi, rfl⟩ := hsubs i s hs
    rw [hrows i hi]
    exact (hF i hi).2.2.2
   ·obtain ⟨hi, rfl⟩ := hsubs i s hs
    rw [hrows i hi, <- (hF i hi).2.2.1]
    exact hcells i hi
theorem BRel.mats {ρ ρ' : List Place} {p : Place} {k : IntKind} {et : TypeId} {l : List (List Int)} {e : TypeId} {r : Kind} {w : World} (h : BRel ρ p ⟨.mat k et l, e, r⟩ w) : BRel ρ' p ⟨.mat k et l, e, r⟩ w :=
 h.sel (τ := fun _ => none) fun _ _ _ hn => by cases hn
theorem rep_row_at {p : Place} {n i : Nat} {v : Value} {ρ : List Place} (h : Rep [p] (.row 0 n) v) (hi : ρ[i]? = some p) : Rep ρ (.row i n) v := by
 simp only [Rep] at h ⊢
 obtain ⟨q, hq, hf⟩ := h
 simp only [List.getElem?_cons_zero, Option.some.injEq] at hq
 subst hq
 exact ⟨_, hi, hf⟩
theorem MRel.args2 {p q : Place} {b c : Blk} {w : World} (ha : b.kind.isArg = true) (hb : BRel [p, q] p b w) (hc : c.kind.isArg = true) (hd : BRel [p, q] q c w) : MRel [p, q] [b, c] w :=
 MRel.args rfl (argsAll (by simp [ha, hc])) fun i blk u h hu => by
  match i with
  | 0 => simp at h hu; subst h; subst hu; exact hb
  | 1 => simp at h hu; subst h; subst hu; exact hd
  | i + 2 => simp at h
theorem MRel.args3 {p q r : Place} {b c d : Blk} {w : World} (ha : b.kind.isArg = true) (hb : BRel [p, q, r] p b w) (hc : c.kind.isArg = true) (hd : BRel [p, q, r] q c w) (he : d.kind.isArg = true) (hf : BRel [p, q, r] r d w) : MRel [p, q, r] [b, c, d] w :=
 MRel.args rfl (argsAll (by simp [ha, hc, he])) fun i blk u h hu => by
  match i with
  | 0 => simp at h hu; subst h; subst hu; exact hb
  | 1 => simp at h hu; subst h; subst hu; exact hd
  | 2 => simp at h hu; subst h; subst hu; exact hf
  | i + 3 => simp at h
/-- All fields are integers. -/
def allInts (P : Program) (fs : Array Field) : Bool := fs.toList.all fun f => (match P.underlying f.type with | some (.int .i64) => true | _ => false)
theorem allInts_spec {fs : Array Field} (h : allInts P fs = true) : ∀ (j : Nat) (f : Field), fs[j]? = some f -> P.underlying f.type = some (.int .i64) := by
 intro j f hf
 unfold allInts at h
 rw [List.all_eq_true] at h
 have := h f (Array.mem_toList_iff.2 (Array.mem_of_getElem? hf))
 split at this
 ·assumption
 ·cases this
/-- A struct with a slice in it: a cell as it is. -/
theorem cell_any {t : TypeId} {cs : List Value} {j : Nat} (h : ∃ (c : Value) (y : DataW H × List MemPlace) (n : Nat), cs[j]? = some c /\ DataW.trod enc P w base spare held n t [c] = some y) :
  ∃ (c : Value) (y : DataW H × List MemPlace) (n : Nat), cs[j]? = some c /\ DataW.trod enc P w base spare held n t [c] = some y := h
end
theorem list_of2 {l : List Value} {x0 x1 : Value} (h : l.length = 2) (h0 : l[0]? = some x0) (h1 : l[1]? = some x1) : l = [x0, x1] := by
 match l, h with
 | [_, _], _ => simp at h0 h1; simp [h0, h1]
theorem list_of5 {l : List Value} {x0 x1 x2 x3 x4 : Value} (h : l.length = 5) (h0 : l[0]? = some x0) (h1 : l[1]? = some x1) (h2 : l[2]? = some x2) (h3 : l[3]? = some x3) (h4 : l[4]? = some x4) : l = [x0, x1, x2, x3, x4] := by
 match l, h with
 | [_, _, _, _, _], _ => simp at h0 h1 h2 h3 h4; simp [h0, h1, h2, h3, h4]
/-! ### rows of structs of a number, a text and a number -/
structure Row3 where
 a : Int
 t : List UInt8
 b : Int
 deriving Inhabited, DecidableEq
def sh3 : List Sh := [.int .i64, .str, .int .i64]
def flat3 : List Row3 -> List Sc
 | [] => []
 | r :: l => ⟨r.a, []⟩ :: ⟨0, r.t⟩ :: ⟨r.b, []⟩ :: flat3 l
theorem flat3_length : ∀ l : List Row3, (flat3 l).length = l.length * 3
 | [] => rfl
 | r :: l => by simp only [flat3, List.length_cons, flat3_length l]; omega
def vals3 : List Row3 -> List Value
 | [] => []
 | r :: l => .int .i64 r.a :: .string (ofL r.t) :: .int .i64 r.b :: vals3 l
theorem vals3_length : ∀ l : List Row3, (vals3 l).length = l.length * 3
 | [] => rfl
 | r :: l => by simp only [vals3, List.length_cons, vals3_length l]; omega
theorem repL_flat3 {ρ : List Place} : ∀ (l : List Row3) {j : Nat}, j % 3 = 0 -> RepL ρ (recV sh3 j (flat3 l)) (vals3 l)
 | [], _, _ => by simp [flat3, vals3, recV, RepL]
 | r :: l, j, hj => by
  have h0 : shAt sh3 j = .int .i64 := by unfold shAt; rw [show sh3.length = 3 from rfl, hj]; rfl
  have h1 : shAt sh3 (j + 1) = .str := by unfold shAt; rw [show sh3.length = 3 from rfl, show (j + 1) % 3 = 1 by omega]; rfl
  have h2 : shAt sh3 (j + 1 + 1) = .int .i64 := by unfold shAt; rw [show sh3.length = 3 from rfl, show (j + 1 + 1) % 3 = 2 by omega]; rfl
  simp only [flat3, recV, vals3, h0, h1, h2, Sh.v]
  exact repL_cons (by simp [Rep]) (repL_cons (by simp [Rep]) (repL_cons (by simp [Rep]) (repL_flat3 l (j := j + 1 + 1 + 1) (by omega))))
theorem cells3 {cur : List Value} : ∀ (l : List Row3) (off : Nat), (∀ i, i < l.length -> cur[off + i * 3]? = some (.int .i64 (l.getD i default).a) /\ cur[off + i * 3 + 1]? = some (.string (ofL (l.getD i default).t)) /\ cur[off + i * 3 + 2]? = some (.int .i64 (l.getD i default).b)) ->
  (cur.drop off).take (l.length * 3) = vals3 l
 | [], off, _ => by simp [vals3]
 | r :: l, off, h => by
  obtain ⟨h0, h1, h2⟩ := h 0 (by simp)
  simp only [Nat.zero_mul, Nat.add_zero, List.getD_cons_zero] at h0 h1 h2
  have ih := cells3 (cur := cur) l (off + 3) fun i hi => by
   have := h (i + 1) (by simp; omega)
   simp only [List.getD_cons_succ] at this
   rw [show off + 3 + i * 3 = off + (i + 1) * 3 by omega]
   exact this
  obtain ⟨l0, g0⟩ := List.getElem?_eq_some_iff.1 h0
  obtain ⟨l1, g1⟩ := List.getElem?_eq_some_iff.1 h1
  obtain ⟨l2, g2⟩ := List.getElem?_eq_some_iff.1 h2
  rw [List.drop_eq_getElem_cons l0, List.drop_eq_getElem_cons l1, List.drop_eq_getElem_cons l2, g0, g1, g2]
  simp only [List.length_cons, vals3]
  rw [show (l.length + 1) * 3 = l.length * 3 + 1 + 1 + 1 by omega, List.take_succ_cons, List.take_succ_cons, List.take_succ_cons, show off + 1 + 1 + 1 = off + 3 by omega, ih]
section
variable {H : Type} {enc : TypeId × Value -> H} {P : Program} {w : World} {base : Nat} {spare : Nat -> Bool} {held : Bool}
/-- What is trodden at an offset. -/
def SubTrod (enc : TypeId × Value -> H) (P : Program) (w : World) (base : Nat) (spare : Nat -> Bool) (held : Bool) (t : TypeId) (cs : List Value) (o : Nat) : Prop :=
 ∃ (y : DataW H × List MemPlace) (n : Nat), DataW.trod enc P w base spare held n t ((cs.drop o).take (P.cellsOf t)) = some y
theorem struct_flat {r : Reach} {b0 : Nat} {t : TypeId} {fs : Array Field} {v : Value} {d : DataW H} {p : List MemPlace} (hs : P.underlying t = some (.struct fs)) (hv : Value.okWide P w r b0 t v) (h : DataW.Trod enc P w base spare held t v d p) :
  ∃ cs : List Value, v = .agg cs.toArray /\ cs.length = P.cellsOf t /\ ∀ (j : Nat) (f : Field), fs[j]? = some f -> SubTrod enc P w base spare held f.type cs f.offset := by
 obtain ⟨cs, rfl, hsz⟩ := okWide_struct hs hv
 obtain ⟨fuel, hf⟩ := h
 obtain ⟨xs, n, _, hx, _, hlen, hg⟩ := DataW.trod_struct hs hf
 refine ⟨cs.toList, by simp, by simpa using hsz, fun j f hj => ?_⟩
 have hjl : j < fs.size := (Array.getElem?_eq_some_iff.1 hj).1
 have h1 := hg j f hj
 have hxl : j < xs.length := by omega
 refine ⟨xs[j], n, ?_⟩
 have hxs : xs[j]? = some xs[j] := List.getElem?_eq_getElem hxl
 rw [<- hxs, <- h1]
 rfl
theorem sub_struct {t : TypeId} {fs : Array Field} {cs : List Value} {o : Nat} (hs : P.underlying t = some (.struct fs)) (h : SubTrod enc P w base spare held t cs o) (j : Nat) (f : Field) (hj : fs[j]? = some f) (hfit : Nat.ble (f.offset + P.cellsOf f.type) (P.cellsOf t) = true) :
  SubTrod enc P w base spare held f.type cs (o + f.offset) := by
 obtain ⟨y, n, hy⟩ := h
 obtain ⟨xs, m, _, hx, _, hlen, hg⟩ := DataW.trod_struct hs hy
 have hjl : j < fs.size := (Array.getElem?_eq_some_iff.1 hj).1
 have h1 := hg j f hj
 have hxl : j < xs.length := by omega
 refine ⟨xs[j], m, ?_⟩
 have hxs : xs[j]? = some xs[j] := List.getElem?_eq_getElem hxl
 rw [hxs] at h1
 rw [<- h1]
 have hle := Nat.le_of_ble_eq_true hfit
 rw [List.drop_take, List.drop_drop, List.take_take, Nat.min_eq_left (by omega)]
theorem sub_cell {t : TypeId} {cs : List Value} {o : Nat} (h : SubTrod enc P w base spare held t cs o) (h1 : P.cellsOf t = 1) (ho : o < cs.length) : ∃ (c : Value) (y : DataW H × List MemPlace) (n : Nat), cs[o]? = some c /\ DataW.trod enc P w base spare held n t [c] = some y := by
 obtain ⟨y, n, hy⟩ := h
 rw [h1, List.drop_eq_getElem_cons ho, List.take_succ_cons, List.take_zero] at hy
 exact ⟨_, y, n, List.getElem?_eq_getElem ho, hy⟩
/-- One such struct. -/
theorem trod_row3 {e : TypeId} {f0 f1 f2 : Field} {n : Nat} {cs : List Value} {y : DataW H × List MemPlace} (he : P.underlying e = some (.struct #[f0, f1, f2])) (hone : oneCellFields P #[f0, f1, f2] = true) (hC : P.cellsOf e = 3)
  (h0 : P.underlying f0.type = some (.int .i64)) (h1 : P.underlying f1.type = some .string) (h2 : P.underlying f2.type = some (.int .i64))
  (h : DataW.trod enc P w base spare held n e cs = some y) : ∃ r : Row3, r.t.length <= maxLen /\ cs = [.int .i64 r.a, .string (ofL r.t), .int .i64 r.b] := by
 obtain ⟨xs, m, _, _, hlen, hxl, hg⟩ := DataW.trod_struct he h
 rw [hC] at hlen
 have each : ∀ (j : Nat) (f : Field), #[f0, f1, f2][j]? = some f -> ∃ (c : Value) (y : DataW H × List MemPlace) (n : Nat), cs[j]? = some c /\ DataW.trod enc P w base spare held n f.type [c] = some y := by
  intro j f hf
  have hj : j < 3 := (Array.getElem?_eq_some_iff.1 hf).1
  obtain ⟨ho, hk⟩ := hone_of hone j f hf
  have h1 := hg j f hf
  rw [ho, hk] at h1
  have hjl : j < cs.length := by omega
  have hone' : (cs.drop j).take 1 = [cs[j]] := by
   rw [List.drop_eq_getElem_cons hjl]
   rfl
  rw [hone'] at h1
  have hxl' : xs.length = 3 := hxl
  have hxs : xs[j]? = some (xs[j]'(by omega)) := List.getElem?_eq_getElem (by omega)
  rw [hxs] at h1
  exact ⟨_, _, m, List.getElem?_eq_getElem hjl, h1⟩
 obtain ⟨a, c0, _⟩ := cell_int h0 (each 0 f0 rfl)
 obtain ⟨t, c1, ht⟩ := cell_string h1 (each 1 f1 rfl)
 obtain ⟨b, c2, _⟩ := cell_int h2 (each 2 f2 rfl)
 refine ⟨⟨a, t.data.toList, b⟩, ?_, ?_⟩
 ·rw [Array.length_toList]; exact ht
 ·rw [ofL_data]
  exact list_of3 hlen c0 c1 c2
theorem open_recs3 {t e : TypeId} {n : Nat} {v : Value} {y : DataW H × List MemPlace} (ht : P.underlying t = some (.slice e)) (hC : P.cellsOf e = 3)
  (hel : ∀ (n : Nat) (cs : List Value) (y : DataW H × List MemPlace), DataW.trod enc P w base spare held n e cs = some y -> ∃ r : Row3, r.t.length <= maxLen /\ cs = [.int .i64 r.a, .string (ofL r.t), .int .i64 r.b])
  (h : DataW.trod enc P w base spare held n t [v] = some y) (e' : TypeId) :
  ∃ (p : Place) (len : Nat) (l : List Row3), l.length = len /\ len <= maxLen /\ (∀ r ∈ l, r.t.length <= maxLen) /\ Rep [p] (.row 0 len) v /\ BRel [p] p ⟨.recs sh3 (flat3 l), e', .arg 3⟩ w := by
 rcases open_slice ht h with ⟨h0, _⟩ | ⟨a, len, cap, m, n', D, Pl, h0, hb, hl, hm, hmm, _, hx⟩
 ·injection h0 with h0
  exact ⟨⟨0, 0, true, 0, none, []⟩, 0, [], rfl, Nat.zero_le _, (fun r hr => by cases hr), (by show ∃ p, _; exact ⟨_, rfl, .inl ⟨rfl, rfl, h0⟩⟩), .inr (.inl ⟨rfl, rfl, rfl, fun h => by cases h⟩)⟩
 ·injection h0 with h0
  have hlm : len <= m := by rw [hmm]; split <;> omega
  by_cases hz : len = 0
  ·subst hz
   exact ⟨⟨0, cap, true, 0, some a, []⟩, 0, [], rfl, Nat.zero_le _, (fun r hr => by cases hr), (by show ∃ p, _; exact ⟨_, rfl, .inl ⟨rfl, rfl, h0⟩⟩), .inr (.inl ⟨rfl, rfl, rfl, fun h => by cases h⟩)⟩
  ·have each : ∀ i, i < len -> ∃ r : Row3, r.t.length <= maxLen /\ w.cell? ((a.add (i * 3)).add 0) = some (.int .i64 r.a) /\ w.cell? ((a.add (i * 3)).add 1) = some (.string (ofL r.t)) /\ w.cell? ((a.add (i * 3)).add 2) = some (.int .i64 r.b) := by
    intro i hi
    obtain ⟨cs', h1, h2⟩ := hx i (by omega)
    rw [hC] at h1
    obtain ⟨_, hlen, hcell⟩ := World.cells?_some h1
    obtain ⟨r, h3, h4⟩ := hel n' cs' _ h2
    subst h4
    refine ⟨r, h3, ?_, ?_, ?_⟩
    ·rw [hcell 0 (by omega)]; rfl
    ·rw [hcell 1 (by omega)]; rfl
    ·rw [hcell 2 (by omega)]; rfl
   obtain ⟨F, hF⟩ := choose_lt each
   have hfirst := (hF 0 (by omega)).2.1
   rw [Nat.zero_mul] at hfirst
   have ha00 : (a.add 0).add 0 = a := by simp [Addr.add]
   rw [ha00] at hfirst
   have hblock : a.spot = none /\ ∃ (cur : List Value) (el : TypeId) (fz : Nat × Nat), w.heap[a.block]? = some (.cells cur.toArray el fz) := by
    unfold World.cell? at hfirst
    split at hfirst
    ·rename_i c el fz hc
     split at hfirst
     ·cases hfirst
     ·rename_i hs
      refine ⟨by simpa using hs, c.toList, el, fz, by rw [hc, Array.toArray_toList]⟩
    ·cases hfirst
   obtain ⟨hspot, cur, el, fz, hheap⟩ := hblock
   have hcur : ∀ i q x, w.cell? ((a.add (i * 3)).add q) = some x -> cur[a.off + (i * 3 + q)]? = some x := by
    intro i q x this
    have hadd : (a.add (i * 3)).add q = ⟨a.block, a.off + (i * 3 + q), none⟩ := by
     obtain ⟨b, o, s⟩ := a
     simp only at hspot
     subst hspot
     by_cases h1 : i * 3 = 0
     ·rw [h1, show (⟨b, o, none⟩ : Addr).add 0 = ⟨b, o, none⟩ from rfl, Nat.zero_add]
      exact addr_plus b o q
     ·rw [addr_plus b o (i * 3), addr_plus b (o + i * 3) q, Nat.add_assoc]
    rw [hadd, cell_of_row w a.block _ cur.toArray el fz hheap] at this
    simpa using this
   have hrow : ∀ i, i < len -> ((List.range len).map F).getD i default = F i := fun i hi => by
    rw [List.getD_eq_getElem?_getD, List.getElem?_map, List.getElem?_range hi]
    rfl
   have hcs := cells3 (cur := cur) ((List.range len).map F) a.off fun i hi => by
    have hi' : i < len := by simpa using hi
    obtain ⟨_, g0, g1, g2⟩ := hF i hi'
    rw [hrow i hi']
    exact ⟨hcur i 0 _ g0, by rw [Nat.add_assoc]; exact hcur i 1 _ g1, by rw [Nat.add_assoc]; exact hcur i 2 _ g2⟩
   simp only [List.length_map, List.length_range] at hcs
   refine ⟨⟨a.block, cap, false, a.off, none, []⟩, len, (List.range len).map F, by simp, Nat.le_trans hl hm, fun r hr => ?_, ?_, .inr (.inr (.inr (.inl ⟨rfl, ⟨rfl, rfl⟩, cur, el, fz, hheap, ?_, by simp only [Cells.toVs, recV_length, flat3_length, List.length_map, List.length_range]; exact Nat.mul_le_mul_right 3 hl⟩)))⟩
   ·obtain ⟨i, hi, rfl⟩ := List.mem_map.1 hr
    exact (hF i (List.mem_range.1 hi)).1
   ·simp only [Rep]
    refine ⟨_, rfl, .inr ⟨rfl, ?_⟩⟩
    rw [h0]
    obtain ⟨b, o, s⟩ := a
    simp only at hspot
    subst hspot
    simp [addrOf]
   ·simp only [Cells.toVs, recV_length, flat3_length, List.length_map, List.length_range]
    rw [hcs]
    exact repL_flat3 _ rfl
theorem BRel.recs {ρ ρ' : List Place} {p : Place} {sh : List Sh} {l : List Sc} {e : TypeId} {r : Kind} {w : World} (h : BRel ρ p ⟨.recs sh l, e, r⟩ w) : BRel ρ' p ⟨.recs sh l, e, r⟩ w :=
 h.sel (τ := fun _ => none) fun _ _ _ hn => by cases hn
theorem recs3_bd {n : Nat} {l : List Row3} (h : l.length = n /\ n <= maxLen /\ ∀ r ∈ l, r.t.length <= maxLen) : l.length = n /\ (n : Int) <= 9223372036854775807 /\ ∀ r ∈ l, (r.t.length : Int) <= 9223372036854775807 := by
 unfold maxLen at h
 refine ⟨h.1, by omega, fun r hr => ?_⟩
 have := h.2.2 r hr
 omega
end
theorem list_of10 {l : List Value} {x0 x1 x2 x3 x4 x5 x6 x7 x8 x9 : Value} (h : l.length = 10) (h0 : l[0]? = some x0) (h1 : l[1]? = some x1) (h2 : l[2]? = some x2) (h3 : l[3]? = some x3) (h4 : l[4]? = some x4) (h5 : l[5]? = some x5) (h6 : l[6]? = some x6) (h7 : l[7]? = some x7) (h8 : l[8]? = some x8) (h9 : l[9]? = some x9) :
  l = [x0, x1, x2, x3, x4, x5, x6, x7, x8, x9] := by
 match l, h with
 | [_, _, _, _, _, _, _, _, _, _], _ => simp at h0 h1 h2 h3 h4 h5 h6 h7 h8 h9; simp [h0, h1, h2, h3, h4, h5, h6, h7, h8, h9]
end Go.Vi
