/- Arguments opened: slices of structs of integers, and of integers. -/
import Derived.Test.YtpkokghbkamelaaDoorVih
import Derived.Deep.Slices
namespace Go.Vi
open Go.Joins Go.ChangeShapes Go.WideShapes Go.RowKit Go.Deep
section
variable {H : Type} {enc : TypeId × Value -> H} {P : Program} {w : World} {base : Nat} {spare : Nat -> Bool} {held : Bool}

/-- Memory of arguments alone: they may share blocks, as they are read alone. -/
theorem MRel.args {ρ : List Place} {m : List Blk} {w : World} (hl : ρ.length = m.length) (ha : ∀ (i : Nat) (blk : Blk), m[i]? = some blk -> blk.kind.isArg = true) (hb : ∀ (i : Nat) (blk : Blk) (p : Place), m[i]? = some blk -> ρ[i]? = some p -> BRel ρ p blk w) : MRel ρ m w :=
 ⟨hl, hb, fun b b' blk blk' p p' h h' _ _ _ _ _ _ _ hf => by rw [ha b blk h, ha b' blk' h'] at hf; cases hf⟩
theorem BRel.ints {ρ ρ' : List Place} {p : Place} {k : IntKind} {l : List Int} {e : TypeId} {r : Kind} {w : World} (h : BRel ρ p ⟨.ints k l, e, r⟩ w) : BRel ρ' p ⟨.ints k l, e, r⟩ w :=
 h.sel (τ := fun _ => none) fun _ _ _ hn => by cases hn

theorem addr_plus (b o n : Nat) : (⟨b, o, none⟩ : Addr).add n = ⟨b, o + n, none⟩ := by
 unfold Addr.add
 split
 ·rename_i h; rw [h]; rfl
 ·rfl
theorem rep_str {ρ : List Place} (s : ByteArray) : Rep ρ (.str s.data.toList) (.string s) := by simp only [Rep, ofL_data]
theorem rep_int {ρ : List Place} (k : IntKind) (n : Int) : Rep ρ (.int k n) (.int k n) := by simp only [Rep]
theorem rep_agg {ρ : List Place} {cs : List V} {xs : List Value} (h : RepL ρ cs xs) : Rep ρ (.agg cs) (.agg xs.toArray) := by
 simp only [Rep]
 exact ⟨xs, rfl, h⟩
theorem repL_cons {ρ : List Place} {v : V} {x : Value} {vs : List V} {xs : List Value} (h : Rep ρ v x) (hs : RepL ρ vs xs) : RepL ρ (v :: vs) (x :: xs) := by
 simp only [RepL]
 exact ⟨x, xs, rfl, h, hs⟩
theorem repL_nil {ρ : List Place} : RepL ρ [] [] := by simp only [RepL]
theorem argsAll {m : List Blk} (h : (m.all fun b => b.kind.isArg) = true) : ∀ (i : Nat) (blk : Blk), m[i]? = some blk -> blk.kind.isArg = true := fun i blk hb => by
 rw [List.all_eq_true] at h
 exact h blk (List.mem_of_getElem? hb)
theorem rep_row_at {p : Place} {n i : Nat} {v : Value} {ρ : List Place} (h : Rep [p] (.row 0 n) v) (hi : ρ[i]? = some p) : Rep ρ (.row i n) v := by
 simp only [Rep] at h ⊢
 obtain ⟨q, hq, hf⟩ := h
 simp only [List.getElem?_cons_zero, Option.some.injEq] at hq
 subst hq
 exact ⟨_, hi, hf⟩
theorem MRel.args2 {p q : Place} {b c : Blk} {w : World} (ha : b.kind.isArg = true) (hb : BRel [p, q] p b w) (hc : c.kind.isArg = true) (hd : BRel [p, q] q c w) : MRel [p, q] [b, c] w :=
 MRel.args rfl (argsAll (by simp [ha, hc])) fun i blk u h hu => by
  match i with
  | 0 => simp at h hu; subst h; subst hu; exact hb
  | 1 => simp at h hu; subst h; subst hu; exact hd
  | i + 2 => simp at h
end
/-! ### rows of structs of a number, a text and a number -/
structure Row3 where
 a : Int
 t : List UInt8
 b : Int
 deriving Inhabited, DecidableEq
def sh3 : List Sh := [.int .i64, .str, .int .i64]
def flat3 : List Row3 -> List Sc
 | [] => []
 | r :: l => ⟨r.a, []⟩ :: ⟨0, r.t⟩ :: ⟨r.b, []⟩ :: flat3 l
theorem flat3_length : ∀ l : List Row3, (flat3 l).length = l.length * 3
 | [] => rfl
 | r :: l => by simp only [flat3, List.length_cons, flat3_length l]; omega
def vals3 : List Row3 -> List Value
 | [] => []
 | r :: l => .int .i64 r.a :: .string (ofL r.t) :: .int .i64 r.b :: vals3 l
theorem repL_flat3 {ρ : List Place} : ∀ (l : List Row3) {j : Nat}, j % 3 = 0 -> RepL ρ (recV sh3 j (flat3 l)) (vals3 l)
 | [], _, _ => by simp [flat3, vals3, recV, RepL]
 | r :: l, j, hj => by
  have h0 : shAt sh3 j = .int .i64 := by unfold shAt; rw [show sh3.length = 3 from rfl, hj]; rfl
  have h1 : shAt sh3 (j + 1) = .str := by unfold shAt; rw [show sh3.length = 3 from rfl, show (j + 1) % 3 = 1 by omega]; rfl
  have h2 : shAt sh3 (j + 1 + 1) = .int .i64 := by unfold shAt; rw [show sh3.length = 3 from rfl, show (j + 1 + 1) % 3 = 2 by omega]; rfl
  simp only [flat3, recV, vals3, h0, h1, h2, Sh.v]
  exact repL_cons (by simp [Rep]) (repL_cons (by simp [Rep]) (repL_cons (by simp [Rep]) (repL_flat3 l (j := j + 1 + 1 + 1) (by omega))))
theorem cells3 {cur : List Value} : ∀ (l : List Row3) (off : Nat), (∀ i, i < l.length -> cur[off + i * 3]? = some (.int .i64 (l.getD i default).a) /\ cur[off + i * 3 + 1]? = some (.string (ofL (l.getD i default).t)) /\ cur[off + i * 3 + 2]? = some (.int .i64 (l.getD i default).b)) ->
  (cur.drop off).take (l.length * 3) = vals3 l
 | [], off, _ => by simp [vals3]
 | r :: l, off, h => by
  obtain ⟨h0, h1, h2⟩ := h 0 (by simp)
  simp only [Nat.zero_mul, Nat.add_zero, List.getD_cons_zero] at h0 h1 h2
  have ih := cells3 (cur := cur) l (off + 3) fun i hi => by
   have := h (i + 1) (by simp; omega)
   simp only [List.getD_cons_succ] at this
   rw [show off + 3 + i * 3 = off + (i + 1) * 3 by omega]
   exact this
  obtain ⟨l0, g0⟩ := List.getElem?_eq_some_iff.1 h0
  obtain ⟨l1, g1⟩ := List.getElem?_eq_some_iff.1 h1
  obtain ⟨l2, g2⟩ := List.getElem?_eq_some_iff.1 h2
  rw [List.drop_eq_getElem_cons l0, List.drop_eq_getElem_cons l1, List.drop_eq_getElem_cons l2, g0, g1, g2]
  simp only [List.length_cons, vals3]
  rw [show (l.length + 1) * 3 = l.length * 3 + 1 + 1 + 1 by omega, List.take_succ_cons, List.take_succ_cons, List.take_succ_cons, show off + 1 + 1 + 1 = off + 3 by omega, ih]
section
variable {H : Type} {enc : TypeId × Value -> H} {P : Program} {w : World} {base : Nat} {spare : Nat -> Bool} {held : Bool}
/-- What is trodden at an offset. -/
def SubTrod (enc : TypeId × Value -> H) (P : Program) (w : World) (base : Nat) (spare : Nat -> Bool) (held : Bool) (t : TypeId) (cs : List Value) (o : Nat) : Prop :=
 ∃ (y : DataW H × List MemPlace) (n : Nat), DataW.trod enc P w base spare held n t ((cs.drop o).take (P.cellsOf t)) = some y
theorem struct_flat {r : Reach} {b0 : Nat} {t : TypeId} {fs : Array Field} {v : Value} {d : DataW H} {p : List MemPlace} (hs : P.underlying t = some (.struct fs)) (hv : Value.okWide P w r b0 t v) (h : DataW.Trod enc P w base spare held t v d p) :
  ∃ cs : List Value, v = .agg cs.toArray /\ cs.length = P.cellsOf t /\ ∀ (j : Nat) (f : Field), fs[j]? = some f -> SubTrod enc P w base spare held f.type cs f.offset := by
 obtain ⟨cs, rfl, hsz⟩ := okWide_struct hs hv
 obtain ⟨fuel, hf⟩ := h
 obtain ⟨xs, n, _, hx, _, hlen, hg⟩ := DataW.trod_struct hs hf
 refine ⟨cs.toList, by simp, by simpa using hsz, fun j f hj => ?_⟩
 have hjl : j < fs.size := (Array.getElem?_eq_some_iff.1 hj).1
 have h1 := hg j f hj
 have hxl : j < xs.length := by omega
 refine ⟨xs[j], n, ?_⟩
 have hxs : xs[j]? = some xs[j] := List.getElem?_eq_getElem hxl
 rw [<- hxs, <- h1]
 rfl
theorem sub_struct {t : TypeId} {fs : Array Field} {cs : List Value} {o : Nat} (hs : P.underlying t = some (.struct fs)) (h : SubTrod enc P w base spare held t cs o) (j : Nat) (f : Field) (hj : fs[j]? = some f) (hfit : Nat.ble (f.offset + P.cellsOf f.type) (P.cellsOf t) = true) :
  SubTrod enc P w base spare held f.type cs (o + f.offset) := by
 obtain ⟨y, n, hy⟩ := h
 obtain ⟨xs, m, _, hx, _, hlen, hg⟩ := DataW.trod_struct hs hy
 have hjl : j < fs.size := (Array.getElem?_eq_some_iff.1 hj).1
 have h1 := hg j f hj
 have hxl : j < xs.length := by omega
 refine ⟨xs[j], m, ?_⟩
 have hxs : xs[j]? = some xs[j] := List.getElem?_eq_getElem hxl
 rw [hxs] at h1
 rw [<- h1]
 have hle := Nat.le_of_ble_eq_true hfit
 rw [List.drop_take, List.drop_drop, List.take_take, Nat.min_eq_left (by omega)]
theorem sub_cell {t : TypeId} {cs : List Value} {o : Nat} (h : SubTrod enc P w base spare held t cs o) (h1 : P.cellsOf t = 1) (ho : o < cs.length) : ∃ (c : Value) (y : DataW H × List MemPlace) (n : Nat), cs[o]? = some c /\ DataW.trod enc P w base spare held n t [c] = some y := by
 obtain ⟨y, n, hy⟩ := h
 rw [h1, List.drop_eq_getElem_cons ho, List.take_succ_cons, List.take_zero] at hy
 exact ⟨_, y, n, List.getElem?_eq_getElem ho, hy⟩
/-- One such struct. -/
theorem trod_row3 {e : TypeId} {f0 f1 f2 : Field} {n : Nat} {cs : List Value} {y : DataW H × List MemPlace} (he : P.underlying e = some (.struct #[f0, f1, f2])) (hone : oneCellFields P #[f0, f1, f2] = true) (hC : P.cellsOf e = 3)
  (h0 : P.underlying f0.type = some (.int .i64)) (h1 : P.underlying f1.type = some .string) (h2 : P.underlying f2.type = some (.int .i64))
  (h : DataW.trod enc P w base spare held n e cs = some y) : ∃ r : Row3, r.t.length <= maxLen /\ cs = [.int .i64 r.a, .string (ofL r.t), .int .i64 r.b] := by
 obtain ⟨xs, m, _, _, hlen, hxl, hg⟩ := DataW.trod_struct he h
 rw [hC] at hlen
 have each : ∀ (j : Nat) (f : Field), #[f0, f1, f2][j]? = some f -> ∃ (c : Value) (y : DataW H × List MemPlace) (n : Nat), cs[j]? = some c /\ DataW.trod enc P w base spare held n f.type [c] = some y := by
  intro j f hf
  have hj : j < 3 := (Array.getElem?_eq_some_iff.1 hf).1
  obtain ⟨ho, hk⟩ := hone_of hone j f hf
  have h1 := hg j f hf
  rw [ho, hk] at h1
  have hjl : j < cs.length := by omega
  have hone' : (cs.drop j).take 1 = [cs[j]] := by
   rw [List.drop_eq_getElem_cons hjl]
   rfl
  rw [hone'] at h1
  have hxl' : xs.length = 3 := hxl
  have hxs : xs[j]? = some (xs[j]'(by omega)) := List.getElem?_eq_getElem (by omega)
  rw [hxs] at h1
  exact ⟨_, _, m, List.getElem?_eq_getElem hjl, h1⟩
 obtain ⟨a, c0, _⟩ := cell_int h0 (each 0 f0 rfl)
 obtain ⟨t, c1, ht⟩ := cell_string h1 (each 1 f1 rfl)
 obtain ⟨b, c2, _⟩ := cell_int h2 (each 2 f2 rfl)
 refine ⟨⟨a, t.data.toList, b⟩, ?_, ?_⟩
 ·rw [Array.length_toList]; exact ht
 ·rw [ofL_data]
  exact list_of3 hlen c0 c1 c2
theorem open_recs3 {t e : TypeId} {n : Nat} {v : Value} {y : DataW H × List MemPlace} (ht : P.underlying t = some (.slice e)) (hC : P.cellsOf e = 3)
  (hel : ∀ (n : Nat) (cs : List Value) (y : DataW H × List MemPlace), DataW.trod enc P w base spare held n e cs = some y -> ∃ r : Row3, r.t.length <= maxLen /\ cs = [.int .i64 r.a, .string (ofL r.t), .int .i64 r.b])
  (h : DataW.trod enc P w base spare held n t [v] = some y) (e' : TypeId) :
  ∃ (p : Place) (len : Nat) (l : List Row3), l.length = len /\ len <= maxLen /\ (∀ r ∈ l, r.t.length <= maxLen) /\ Rep [p] (.row 0 len) v /\ BRel [p] p ⟨.recs sh3 (flat3 l), e', .arg 3⟩ w := by
 rcases open_slice ht h with ⟨h0, _⟩ | ⟨a, len, cap, m, n', D, Pl, h0, hb, hl, hm, hmm, _, hx⟩
 ·injection h0 with h0
  exact ⟨⟨0, 0, true, 0, none, []⟩, 0, [], rfl, Nat.zero_le _, (fun r hr => by cases hr), (by show ∃ p, _; exact ⟨_, rfl, .inl ⟨rfl, rfl, h0⟩⟩), .inr (.inl ⟨rfl, rfl, rfl, fun h => by cases h⟩)⟩
 ·injection h0 with h0
  have hlm : len <= m := by rw [hmm]; split <;> omega
  by_cases hz : len = 0
  ·subst hz
   exact ⟨⟨0, cap, true, 0, some a, []⟩, 0, [], rfl, Nat.zero_le _, (fun r hr => by cases hr), (by show ∃ p, _; exact ⟨_, rfl, .inl ⟨rfl, rfl, h0⟩⟩), .inr (.inl ⟨rfl, rfl, rfl, fun h => by cases h⟩)⟩
  ·have each : ∀ i, i < len -> ∃ r : Row3, r.t.length <= maxLen /\ w.cell? ((a.add (i * 3)).add 0) = some (.int .i64 r.a) /\ w.cell? ((a.add (i * 3)).add 1) = some (.string (ofL r.t)) /\ w.cell? ((a.add (i * 3)).add 2) = some (.int .i64 r.b) := by
    intro i hi
    obtain ⟨cs', h1, h2⟩ := hx i (by omega)
    rw [hC] at h1
    obtain ⟨_, hlen, hcell⟩ := World.cells?_some h1
    obtain ⟨r, h3, h4⟩ := hel n' cs' _ h2
    subst h4
    refine ⟨r, h3, ?_, ?_, ?_⟩
    ·rw [hcell 0 (by omega)]; rfl
    ·rw [hcell 1 (by omega)]; rfl
    ·rw [hcell 2 (by omega)]; rfl
   obtain ⟨F, hF⟩ := choose_lt each
   have hfirst := (hF 0 (by omega)).2.1
   rw [Nat.zero_mul] at hfirst
   have ha00 : (a.add 0).add 0 = a := by simp [Addr.add]
   rw [ha00] at hfirst
   have hblock : a.spot = none /\ ∃ (cur : List Value) (el : TypeId) (fz : Nat × Nat), w.heap[a.block]? = some (.cells cur.toArray el fz) := by
    unfold World.cell? at hfirst
    split at hfirst
    ·rename_i c el fz hc
     split at hfirst
     ·cases hfirst
     ·rename_i hs
      refine ⟨by simpa using hs, c.toList, el, fz, by rw [hc, Array.toArray_toList]⟩
    ·cases hfirst
   obtain ⟨hspot, cur, el, fz, hheap⟩ := hblock
   have hcur : ∀ i q x, w.cell? ((a.add (i * 3)).add q) = some x -> cur[a.off + (i * 3 + q)]? = some x := by
    intro i q x this
    have hadd : (a.add (i * 3)).add q = ⟨a.block, a.off + (i * 3 + q), none⟩ := by
     obtain ⟨b, o, s⟩ := a
     simp only at hspot
     subst hspot
     by_cases h1 : i * 3 = 0
     ·rw [h1, show (⟨b, o, none⟩ : Addr).add 0 = ⟨b, o, none⟩ from rfl, Nat.zero_add]
      exact addr_plus b o q
     ·rw [addr_plus b o (i * 3), addr_plus b (o + i * 3) q, Nat.add_assoc]
    rw [hadd, cell_of_row w a.block _ cur.toArray el fz hheap] at this
    simpa using this
   have hrow : ∀ i, i < len -> ((List.range len).map F).getD i default = F i := fun i hi => by
    rw [List.getD_eq_getElem?_getD, List.getElem?_map, List.getElem?_range hi]
    rfl
   have hcs := cells3 (cur := cur) ((List.range len).map F) a.off fun i hi => by
    have hi' : i < len := by simpa using hi
    obtain ⟨_, g0, g1, g2⟩ := hF i hi'
    rw [hrow i hi']
    exact ⟨hcur i 0 _ g0, by rw [Nat.add_assoc]; exact hcur i 1 _ g1, by rw [Nat.add_assoc]; exact hcur i 2 _ g2⟩
   simp only [List.length_map, List.length_range] at hcs
   refine ⟨⟨a.block, cap, false, a.off, none, []⟩, len, (List.range len).map F, by simp, Nat.le_trans hl hm, fun r hr => ?_, ?_, .inr (.inr (.inr (.inl ⟨rfl, ⟨rfl, rfl⟩, cur, el, fz, hheap, ?_, by simp only [Cells.toVs, recV_length, flat3_length, List.length_map, List.length_range]; exact Nat.mul_le_mul_right 3 hl⟩)))⟩
   ·obtain ⟨i, hi, rfl⟩ := List.mem_map.1 hr
    exact (hF i (List.mem_range.1 hi)).1
   ·simp only [Rep]
    refine ⟨_, rfl, .inr ⟨rfl, ?_⟩⟩
    rw [h0]
    obtain ⟨b, o, s⟩ := a
    simp only at hspot
    subst hspot
    simp [addrOf]
   ·simp only [Cells.toVs, recV_length, flat3_length, List.length_map, List.length_range]
    rw [hcs]
    exact repL_flat3 _ rfl
theorem BRel.recs {ρ ρ' : List Place} {p : Place} {sh : List Sh} {l : List Sc} {e : TypeId} {r : Kind} {w : World} (h : BRel ρ p ⟨.recs sh l, e, r⟩ w) : BRel ρ' p ⟨.recs sh l, e, r⟩ w :=
 h.sel (τ := fun _ => none) fun _ _ _ hn => by cases hn
theorem recs3_bd {n : Nat} {l : List Row3} (h : l.length = n /\ n <= maxLen /\ ∀ r ∈ l, r.t.length <= maxLen) : l.length = n /\ (n : Int) <= 9223372036854775807 /\ ∀ r ∈ l, (r.t.length : Int) <= 9223372036854775807 := by
 unfold maxLen at h
 refine ⟨h.1, by omega, fun r hr => ?_⟩
 have := h.2.2 r hr
 omega
end
end Go.Vi
