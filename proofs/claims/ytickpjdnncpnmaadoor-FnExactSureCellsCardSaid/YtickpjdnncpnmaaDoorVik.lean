/- Arguments opened: slices of structs of integers, and of integers. -/
import Derived.Test.YtickpjdnncpnmaaDoorVih
import Derived.Deep.Slices
namespace Go.Vi
open Go.Joins Go.ChangeShapes Go.WideShapes Go.RowKit Go.Deep
section
variable {H : Type} {enc : TypeId × Value -> H} {P : Program} {w : World} {base : Nat} {spare : Nat -> Bool} {held : Bool}

/-- Memory of arguments alone: they may share blocks, as they are read alone. -/
theorem MRel.args {ρ : List Place} {m : List Blk} {w : World} (hl : ρ.length = m.length) (ha : ∀ (i : Nat) (blk : Blk), m[i]? = some blk -> blk.kind.isArg = true) (hb : ∀ (i : Nat) (blk : Blk) (p : Place), m[i]? = some blk -> ρ[i]? = some p -> BRel ρ p blk w) : MRel ρ m w :=
 ⟨hl, hb, fun b b' blk blk' p p' h h' _ _ _ _ _ _ _ hf => by rw [ha b blk h, ha b' blk' h'] at hf; cases hf⟩
theorem BRel.ints {ρ ρ' : List Place} {p : Place} {k : IntKind} {l : List Int} {e : TypeId} {r : Kind} {w : World} (h : BRel ρ p ⟨.ints k l, e, r⟩ w) : BRel ρ' p ⟨.ints k l, e, r⟩ w :=
 h.sel (τ := fun _ => none) fun _ _ _ hn => by cases hn

theorem addr_plus (b o n : Nat) : (⟨b, o, none⟩ : Addr).add n = ⟨b, o + n, none⟩ := by
 unfold Addr.add
 split
 ·rename_i h; rw [h]; rfl
 ·rfl
theorem rep_str {ρ : List Place} (s : ByteArray) : Rep ρ (.str s.data.toList) (.string s) := by simp only [Rep, ofL_data]
theorem rep_int {ρ : List Place} (k : IntKind) (n : Int) : Rep ρ (.int k n) (.int k n) := by simp only [Rep]
theorem rep_agg {ρ : List Place} {cs : List V} {xs : List Value} (h : RepL ρ cs xs) : Rep ρ (.agg cs) (.agg xs.toArray) := by
 simp only [Rep]
 exact ⟨xs, rfl, h⟩
theorem repL_cons {ρ : List Place} {v : V} {x : Value} {vs : List V} {xs : List Value} (h : Rep ρ v x) (hs : RepL ρ vs xs) : RepL ρ (v :: vs) (x :: xs) := by
 simp only [RepL]
 exact ⟨x, xs, rfl, h, hs⟩
theorem repL_nil {ρ : List Place} : RepL ρ [] [] := by simp only [RepL]
theorem argsAll {m : List Blk} (h : (m.all fun b => b.kind.isArg) = true) : ∀ (i : Nat) (blk : Blk), m[i]? = some blk -> blk.kind.isArg = true := fun i blk hb => by
 rw [List.all_eq_true] at h
 exact h blk (List.mem_of_getElem? hb)
theorem MRel.args1 {p : Place} {b : Blk} {w : World} (ha : b.kind.isArg = true) (hb : BRel [p] p b w) : MRel [p] [b] w :=
 MRel.args rfl (argsAll (by simp [ha])) fun i blk q h hq => by
  cases i with
  | zero => simp at h hq; subst h; subst hq; exact hb
  | succ i => simp at h
theorem rows_bd {n k : Nat} {l : List Int} (h : l.length = n * k /\ n <= maxLen) : l.length = n * k /\ (n : Int) <= 9223372036854775807 := by
 unfold maxLen at h
 omega
/-- One element. -/
theorem trod_ints {e : TypeId} {fs : Array Field} {n : Nat} {cs : List Value} {y : DataW H × List MemPlace} (he : P.underlying e = some (.struct fs)) (hone : oneCellFields P fs = true) (hC : P.cellsOf e = fs.size) (hint : ∀ (j : Nat) (f : Field), fs[j]? = some f -> P.underlying f.type = some (.int .i64))
  (h : DataW.trod enc P w base spare held n e cs = some y) : ∃ l : List Int, l.length = fs.size /\ cs = l.map (Value.int .i64) := by
 obtain ⟨xs, m, _, _, hlen, _, hg⟩ := DataW.trod_struct he h
 have each : ∀ j, j < fs.size -> ∃ z : Int, cs[j]? = some (.int .i64 z) := by
  intro j hj
  have hf : fs[j]? = some fs[j] := Array.getElem?_eq_getElem hj
  obtain ⟨ho, hk⟩ := hone_of hone j fs[j] hf
  have h1 := hg j fs[j] hf
  rw [ho, hk] at h1
  have hjl : j < cs.length := by rw [hlen, hC]; exact hj
  have hone' : (cs.drop j).take 1 = [cs[j]] := by
   rw [List.drop_eq_getElem_cons hjl]
   rfl
  rw [hone'] at h1
  cases hx : xs[j]? with
  | none =>
   rw [hx] at h1
   have hxl : xs.length = fs.size := by assumption
   have := List.getElem?_eq_none_iff.1 hx
   omega
  | some x =>
   rw [hx] at h1
   obtain ⟨z, e0, _⟩ := DataW.trod_int (hint j fs[j] hf) h1
   simp at e0
   exact ⟨z, by rw [List.getElem?_eq_getElem hjl, e0]⟩
 refine ⟨cs.map fun v => match v with | .int _ z => z | _ => 0, by simp [hlen, hC], List.ext_getElem? fun j => ?_⟩
 by_cases hj : j < fs.size
 ·obtain ⟨z, hz⟩ := each j hj
  simp [hz]
 ·have : cs.length <= j := by rw [hlen, hC]; omega
  simp [List.getElem?_eq_none this]

/-- A slice that came in, of elements of k integers each. -/
theorem open_rows_of {t e : TypeId} {k : Nat} {n : Nat} {v : Value} {y : DataW H × List MemPlace} (ht : P.underlying t = some (.slice e)) (hC : P.cellsOf e = k) (hk : 0 < k)
  (hel : ∀ (n : Nat) (cs : List Value) (y : DataW H × List MemPlace), DataW.trod enc P w base spare held n e cs = some y -> ∃ l : List Int, l.length = k /\ cs = l.map (Value.int .i64))
  (h : DataW.trod enc P w base spare held n t [v] = some y) (e' : TypeId) :
  ∃ (p : Place) (len : Nat) (l : List Int), l.length = len * k /\ len <= maxLen /\ Rep [p] (.row 0 len) v /\ BRel [p] p ⟨.ints .i64 l, e', .arg k⟩ w := by
 rcases open_slice ht h with ⟨h0, _⟩ | ⟨a, len, cap, m, n', D, Pl, h0, hb, hl, hm, hmm, _, hx⟩
 ·injection h0 with h0
  exact ⟨⟨0, 0, true, 0, none, []⟩, 0, [], by simp, Nat.zero_le _, (by show ∃ p, _; exact ⟨_, rfl, .inl ⟨rfl, rfl, h0⟩⟩), .inr (.inl ⟨rfl, rfl, rfl, fun h => by cases h⟩)⟩
 ·injection h0 with h0
  have hlm : len <= m := by rw [hmm]; split <;> omega
  by_cases hz : len = 0
  ·subst hz
   exact ⟨⟨0, cap, true, 0, some a, []⟩, 0, [], by simp, Nat.zero_le _, (by show ∃ p, _; exact ⟨_, rfl, .inl ⟨rfl, rfl, h0⟩⟩), .inr (.inl ⟨rfl, rfl, rfl, fun h => by cases h⟩)⟩
  ·have each : ∀ i, i < len -> ∃ l : List Int, l.length = k /\ ∀ q, q < k -> w.cell? ((a.add (i * k)).add q) = some (.int .i64 (l.getD q 0)) := by
    intro i hi
    obtain ⟨cs', h1, h2⟩ := hx i (by omega)
    rw [hC] at h1
    obtain ⟨_, hlen, hcell⟩ := World.cells?_some h1
    obtain ⟨l, h3, h4⟩ := hel n' cs' _ h2
    refine ⟨l, h3, fun q hq => ?_⟩
    rw [hcell q hq, h4, List.getElem?_map, getD_some (d := 0) (by omega)]
    rfl
   obtain ⟨F, hF⟩ := choose_lt each
   -- the block
   have hfirst := (hF 0 (by omega)).2 0 hk
   rw [Nat.zero_mul] at hfirst
   have ha00 : (a.add 0).add 0 = a := by simp [Addr.add]
   rw [ha00] at hfirst
   have hblock : a.spot = none /\ ∃ (cur : List Value) (el : TypeId) (fz : Nat × Nat), w.heap[a.block]? = some (.cells cur.toArray el fz) := by
    unfold World.cell? at hfirst
    split at hfirst
    ·rename_i c el fz hc
     split at hfirst
     ·cases hfirst
     ·rename_i hs
      refine ⟨by simpa using hs, c.toList, el, fz, by rw [hc, Array.toArray_toList]⟩
    ·cases hfirst
   obtain ⟨hspot, cur, el, fz, hheap⟩ := hblock
   have hcells : ∀ i q, i < len -> q < k -> cur[a.off + (i * k + q)]? = some (.int .i64 ((F i).getD q 0)) := by
    intro i q hi hq
    have := (hF i hi).2 q hq
    have hadd : (a.add (i * k)).add q = ⟨a.block, a.off + (i * k + q), none⟩ := by
     obtain ⟨b, o, s⟩ := a
     simp only at hspot
     subst hspot
     by_cases h1 : i * k = 0
     ·rw [h1, show (⟨b, o, none⟩ : Addr).add 0 = ⟨b, o, none⟩ from rfl, Nat.zero_add]
      exact addr_plus b o q
     ·rw [addr_plus b o (i * k), addr_plus b (o + i * k) q, Nat.add_assoc]
    rw [hadd, cell_of_row w a.block _ cur.toArray el fz hheap] at this
    simpa using this
   refine ⟨⟨a.block, cap, false, a.off, none, []⟩, len, (List.range (len * k)).map fun j => (F (j / k)).getD (j % k) 0, by simp, Nat.le_trans hl hm, ?_, .inr (.inr (.inr (.inl ⟨rfl, ⟨rfl, rfl⟩, cur, el, fz, hheap, ?_, by simp only [Cells.toVs, List.length_map, List.length_range]; exact Nat.mul_le_mul_right k hl⟩)))⟩
   ·simp only [Rep]
    refine ⟨_, rfl, .inr ⟨rfl, ?_⟩⟩
    rw [h0]
    obtain ⟨b, o, s⟩ := a
    simp only at hspot
    subst hspot
    simp [addrOf]
   ·simp only [Cells.toVs, List.length_map, List.length_range]
    have hall : ∀ j, j < len * k -> cur[a.off + j]? = some (.int .i64 ((F (j / k)).getD (j % k) 0)) := by
     intro j hj
     have h1 : j / k < len := Nat.div_lt_of_lt_mul (by rw [Nat.mul_comm]; exact hj)
     have h2 : j % k < k := Nat.mod_lt _ hk
     have := hcells (j / k) (j % k) h1 h2
     rwa [show j / k * k + j % k = j by rw [Nat.mul_comm]; exact Nat.div_add_mod j k] at this
    refine RepL.of ?_ fun j u x hu hx => ?_
    ·have hlast := hall (len * k - 1) (by have : 0 < len * k := Nat.mul_pos (by omega) hk; omega)
     have := (List.getElem?_eq_some_iff.1 hlast).1
     simp only [List.length_map, List.length_range, List.length_take, List.length_drop]
     have : 0 < len * k := Nat.mul_pos (by omega) hk
     omega
    ·simp only [List.getElem?_map, List.getElem?_take, List.getElem?_drop] at hu hx
     by_cases hj : j < len * k
     ·rw [List.getElem?_range hj] at hu
      rw [if_pos hj, hall j hj] at hx
      simp only [Option.map_some, Option.some.injEq] at hu hx
      subst hu; subst hx
      rfl
     ·rw [if_neg hj] at hx
      cases hx
theorem open_rows {t e : TypeId} {fs : Array Field} {n : Nat} {v : Value} {y : DataW H × List MemPlace} (ht : P.underlying t = some (.slice e)) (he : P.underlying e = some (.struct fs)) (hone : oneCellFields P fs = true) (hC : P.cellsOf e = fs.size) (hk : 0 < fs.size)
  (hint : ∀ (j : Nat) (f : Field), fs[j]? = some f -> P.underlying f.type = some (.int .i64)) (h : DataW.trod enc P w base spare held n t [v] = some y) (e' : TypeId) :
  ∃ (p : Place) (len : Nat) (l : List Int), l.length = len * fs.size /\ len <= maxLen /\ Rep [p] (.row 0 len) v /\ BRel [p] p ⟨.ints .i64 l, e', .arg fs.size⟩ w :=
 open_rows_of ht hC hk (fun _ _ _ h => trod_ints he hone hC hint h) h e'
theorem rep_row_at {p : Place} {n i : Nat} {v : Value} {ρ : List Place} (h : Rep [p] (.row 0 n) v) (hi : ρ[i]? = some p) : Rep ρ (.row i n) v := by
 simp only [Rep] at h ⊢
 obtain ⟨q, hq, hf⟩ := h
 simp only [List.getElem?_cons_zero, Option.some.injEq] at hq
 subst hq
 exact ⟨_, hi, hf⟩
/-- All fields are integers. -/
def allInts (P : Program) (fs : Array Field) : Bool := fs.toList.all fun f => (match P.underlying f.type with | some (.int .i64) => true | _ => false)
theorem allInts_spec {fs : Array Field} (h : allInts P fs = true) : ∀ (j : Nat) (f : Field), fs[j]? = some f -> P.underlying f.type = some (.int .i64) := by
 intro j f hf
 unfold allInts at h
 rw [List.all_eq_true] at h
 have := h f (Array.mem_toList_iff.2 (Array.mem_of_getElem? hf))
 split at this
 ·assumption
 ·cases this
end
/-! ### rows of structs of a number, a text and a number -/
structure Row3 where
 a : Int
 t : List UInt8
 b : Int
 deriving Inhabited, DecidableEq
section
variable {H : Type} {enc : TypeId × Value -> H} {P : Program} {w : World} {base : Nat} {spare : Nat -> Bool} {held : Bool}
theorem BRel.recs {ρ ρ' : List Place} {p : Place} {sh : List Sh} {l : List Sc} {e : TypeId} {r : Kind} {w : World} (h : BRel ρ p ⟨.recs sh l, e, r⟩ w) : BRel ρ' p ⟨.recs sh l, e, r⟩ w :=
 h.sel (τ := fun _ => none) fun _ _ _ hn => by cases hn
end
end Go.Vi
