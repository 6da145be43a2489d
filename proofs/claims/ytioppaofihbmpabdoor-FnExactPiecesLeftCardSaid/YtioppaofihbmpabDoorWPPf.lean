/- Worms' pieces: the conditions hold. -/
import Derived.Test.YtioppaofihbmpabDoorWPVc
import Derived.Test.YtioppaofihbmpabDoorWPSpec
namespace Go.Vi
set_option linter.unusedSimpArgs false
/-! ### rows of marks -/
def on (l : List Bool) (i : Nat) : Prop := l.getD i true = true
theorem offs_set : ∀ {l : List Bool} {i : Nat}, l.getD i true = false → offs (l.set i true) + 1 = offs l
  | [], i, h => by simp at h
  | b :: l, 0, h => by
    have : b = false := by simpa using h
    subst this
    simp [offs]
  | b :: l, i + 1, h => by
    have := offs_set (l := l) (i := i) (by simpa using h)
    unfold offs at this ⊢
    cases b <;> simp only [List.set_cons_succ, List.count_cons_self, ne_eq, Bool.true_eq_false, not_false_eq_true, List.count_cons_of_ne] <;> omega
theorem offs_le (l : List Bool) : offs l ≤ l.length := List.count_le_length
theorem on_set {l : List Bool} {i j : Nat} : on (l.set i true) j ↔ on l j ∨ j = i := by
  unfold on
  simp only [List.getD_eq_getElem?_getD, List.getElem?_set]
  by_cases h : i = j
  · subst h
    by_cases h2 : i < l.length
    · simp [h2]
    · simp [h2]
  · simp only [h, if_false]
    constructor
    · exact .inl
    · rintro (h1 | h1)
      · exact h1
      · exact absurd h1.symm h
theorem on_ext {a b : List Bool} (hl : a.length = b.length) (h : ∀ i : Nat, on a i ↔ on b i) : a = b := by
  refine List.ext_getElem hl fun i h1 h2 => ?_
  have := h i
  unfold on at this
  rw [List.getD_eq_getElem?_getD, List.getD_eq_getElem?_getD, List.getElem?_eq_getElem h1, List.getElem?_eq_getElem h2] at this
  simp only [Option.getD_some] at this
  exact Bool.eq_iff_iff.2 this
theorem offs_dfs (g : Int → List Int) : ∀ (n : Nat) (k : Int) (l : List Bool), offs (dfs g n k l) ≤ offs l ∧ (dfs g n k l).length = l.length
  | 0, _, _ => ⟨Nat.le_refl _, rfl⟩
  | n + 1, k, l => by
    have hf : ∀ (js : List Int) (l : List Bool), offs (js.foldl (fun l j => dfs g n j l) l) ≤ offs l ∧ (js.foldl (fun l j => dfs g n j l) l).length = l.length := by
      intro js
      induction js with
      | nil => exact fun l => ⟨Nat.le_refl _, rfl⟩
      | cons j js ih =>
        intro l
        have h1 := offs_dfs g n j l
        have h2 := ih (dfs g n j l)
        simp only [List.foldl_cons]
        exact ⟨Nat.le_trans h2.1 h1.1, h2.2.trans h1.2⟩
    unfold dfs
    cases h : l.getD k.toNat true
    · have h1 := hf (g k) (l.set k.toNat true)
      have h2 := offs_set h
      simp only [cond_false]
      exact ⟨by omega, by rw [h1.2, List.length_set]⟩
    · exact ⟨Nat.le_refl _, rfl⟩
theorem dfs_fuel (g : Int → List Int) : ∀ (n m : Nat) (k : Int) (l : List Bool), offs l < n → offs l < m → dfs g n k l = dfs g m k l
  | 0, _, _, _, h, _ => absurd h (Nat.not_lt_zero _)
  | n + 1, 0, _, _, _, h => absurd h (Nat.not_lt_zero _)
  | n + 1, m + 1, k, l, h, h' => by
    have hf : ∀ (js : List Int) (l : List Bool), offs l < n → offs l < m → js.foldl (fun l j => dfs g n j l) l = js.foldl (fun l j => dfs g m j l) l := by
      intro js
      induction js with
      | nil => exact fun l _ _ => rfl
      | cons j js ih =>
        intro l h1 h2
        have h3 := (offs_dfs g n j l).1
        simp only [List.foldl_cons]
        rw [← dfs_fuel g n m j l h1 h2]
        exact ih _ (by omega) (by omega)
    unfold dfs
    cases hk : l.getD k.toNat true
    · have h2 := offs_set hk
      simp only [cond_false]
      exact hf _ _ (by omega) (by omega)
    · rfl
theorem rchs_of (g : Int → List Int) (n : Nat) : ∀ (js : List Int) (l : List Bool), offs l < n → js.foldl (fun l j => dfs g n j l) l = rchs g js l
  | [], _, _ => rfl
  | j :: js, l, h => by
    have h3 := (offs_dfs g n j l).1
    have e : dfs g n j l = rch g j l := dfs_fuel g n _ j l h (by omega)
    unfold rchs
    simp only [List.foldl_cons]
    rw [← e]
    exact rchs_of g n js _ (by omega)
theorem rch_on {g : Int → List Int} {k : Int} {l : List Bool} (h : l.getD k.toNat true = true) : rch g k l = l := by
  unfold rch dfs
  rw [h]; rfl
theorem rch_off {g : Int → List Int} {k : Int} {l : List Bool} (h : l.getD k.toNat true = false) : rch g k l = rchs g (g k) (l.set k.toNat true) := by
  have h2 := offs_set h
  unfold rch
  show (bif l.getD k.toNat true then l else (g k).foldl (fun a j => dfs g (offs l) j a) (l.set k.toNat true)) = _
  rw [h]
  exact rchs_of g _ _ _ (by omega)
theorem rchs_len (g : Int → List Int) : ∀ (js : List Int) (l : List Bool), offs (rchs g js l) ≤ offs l ∧ (rchs g js l).length = l.length
  | [], _ => ⟨Nat.le_refl _, rfl⟩
  | j :: js, l => by
    have h1 := offs_dfs g (offs l + 1) j l
    have h2 := rchs_len g js (rch g j l)
    unfold rchs at h2 ⊢
    simp only [List.foldl_cons]
    exact ⟨Nat.le_trans h2.1 h1.1, h2.2.trans h1.2⟩
theorem rch_len (g : Int → List Int) (k : Int) (l : List Bool) : (rch g k l).length = l.length := (offs_dfs g _ k l).2
/-! ### in depth: all that is new has its neighbours, and nothing is new that need not be -/
structure Grow (g : Int → List Int) (js : List Int) (l l' : List Bool) : Prop where
  sub : ∀ i : Nat, on l i → on l' i
  new : ∀ j ∈ js, on l' j.toNat
  nbs : ∀ i : Int, 0 ≤ i → on l' i.toNat → on l i.toNat ∨ ∀ j ∈ g i, on l' j.toNat
theorem grow_dfs {g : Int → List Int} (hg : ∀ i, ∀ j ∈ g i, 0 ≤ j) : ∀ (n : Nat) (k : Int) (l : List Bool), 0 ≤ k → offs l < n → Grow g [k] l (dfs g n k l)
  | 0, _, _, _, h => absurd h (Nat.not_lt_zero _)
  | n + 1, k, l, h0, h => by
    unfold dfs
    cases hk : l.getD k.toNat true
    · have h2 := offs_set hk
      simp only [cond_false]
      have hf : ∀ (js : List Int), (∀ j ∈ js, 0 ≤ j) → ∀ l : List Bool, offs l < n → Grow g js l (js.foldl (fun l j => dfs g n j l) l) := by
        intro js
        induction js with
        | nil => exact fun _ l _ => ⟨fun _ h => h, fun j hj => by simp at hj, fun _ _ h => .inl h⟩
        | cons j js ih =>
          intro hj l hl
          have h1 := grow_dfs hg n j l (hj j (by simp)) hl
          have hle := (offs_dfs g n j l).1
          have h2 := ih (fun i hi => hj i (by simp [hi])) (dfs g n j l) (by omega)
          simp only [List.foldl_cons]
          refine ⟨fun i h => h2.sub i (h1.sub i h), fun i hi => ?_, fun i h0 hi => ?_⟩
          · rcases List.mem_cons.1 hi with rfl | hi
            · exact h2.sub _ (h1.new _ (by simp))
            · exact h2.new i hi
          · rcases h2.nbs i h0 hi with h | h
            · rcases h1.nbs i h0 h with h | h
              · exact .inl h
              · exact .inr fun q hq => h2.sub _ (h q hq)
            · exact .inr h
      have h3 := hf (g k) (hg k) (l.set k.toNat true) (by omega)
      refine ⟨fun i hi => h3.sub i (on_set.2 (.inl hi)), fun j hj => ?_, fun i hi0 hi => ?_⟩
      · rw [List.mem_singleton] at hj
        subst hj
        exact h3.sub _ (on_set.2 (.inr rfl))
      · rcases h3.nbs i hi0 hi with h4 | h4
        · rcases on_set.1 h4 with h5 | h5
          · exact .inl h5
          · have : i = k := by omega
            subst this
            exact .inr h3.new
        · exact .inr h4
    · simp only [cond_true]
      refine ⟨fun _ h => h, fun j hj => ?_, fun _ _ h => .inl h⟩
      rw [List.mem_singleton] at hj
      subst hj
      exact hk
theorem least_dfs {g : Int → List Int} {S : Int → Prop} (h0 : ∀ i, S i → 0 ≤ i) (hS : ∀ i, S i → ∀ j ∈ g i, S j) : ∀ (n : Nat) (k : Int) (l : List Bool), S k → ∀ i : Nat, on (dfs g n k l) i → on l i ∨ S i
  | 0, _, _, _, _, h => .inl h
  | n + 1, k, l, hk, i, h => by
    unfold dfs at h
    cases hl : l.getD k.toNat true
    · rw [hl] at h
      simp only [cond_false] at h
      have hf : ∀ (js : List Int), (∀ j ∈ js, S j) → ∀ l : List Bool, on (js.foldl (fun l j => dfs g n j l) l) i → on l i ∨ S i := by
        intro js
        induction js with
        | nil => exact fun _ l h => .inl h
        | cons j js ih =>
          intro hj l h
          simp only [List.foldl_cons] at h
          rcases ih (fun q hq => hj q (by simp [hq])) _ h with h | h
          · exact least_dfs h0 hS n j l (hj j (by simp)) i h
          · exact .inr h
      rcases hf (g k) (hS k hk) _ h with h | h
      · rcases on_set.1 h with h | h
        · exact .inl h
        · have := h0 k hk
          have : (i : Int) = k := by omega
          exact .inr (by rw [this]; exact hk)
      · exact .inr h
    · rw [hl] at h
      exact .inl h
/-! ### in breadth -/
theorem bq_succ (g : Int → List Int) (s : List Bool × List Int) (n : Nat) : bq g s (n + 1) = bstep g (bq g s n) n := rfl
structure Ext (S : Int → Prop) (s s' : List Bool × List Int) : Prop where
  sub : ∀ i : Nat, on s.1 i → on s'.1 i
  app : ∃ r, s'.2 = s.2 ++ r ∧ ∀ j ∈ r, on s'.1 j.toNat ∧ S j
  len : s'.1.length = s.1.length
  cnt : offs s'.1 + s'.2.length = offs s.1 + s.2.length
  new : ∀ i : Int, 0 ≤ i → on s'.1 i.toNat → on s.1 i.toNat ∨ i ∈ s'.2
theorem Ext.refl {S : Int → Prop} (s : List Bool × List Int) : Ext S s s := ⟨fun _ h => h, ⟨[], by simp, fun j hj => by simp at hj⟩, rfl, rfl, fun _ _ h => .inl h⟩
theorem Ext.trans {S : Int → Prop} {s s' s'' : List Bool × List Int} (h : Ext S s s') (h' : Ext S s' s'') : Ext S s s'' := by
  obtain ⟨r, hr, hr2⟩ := h.app
  obtain ⟨r', hr', hr2'⟩ := h'.app
  refine ⟨fun i hi => h'.sub i (h.sub i hi), ⟨r ++ r', by rw [hr', hr, List.append_assoc], fun j hj => ?_⟩, h'.len.trans h.len, h'.cnt.trans h.cnt, fun i h0 hi => ?_⟩
  · rcases List.mem_append.1 hj with hj | hj
    · exact ⟨h'.sub _ (hr2 j hj).1, (hr2 j hj).2⟩
    · exact hr2' j hj
  · rcases h'.new i h0 hi with h1 | h1
    · rcases h.new i h0 h1 with h2 | h2
      · exact .inl h2
      · exact .inr (by rw [hr']; exact List.mem_append_left _ h2)
    · exact .inr h1
theorem ext_add {S : Int → Prop} (h0 : ∀ i, S i → 0 ≤ i) {s : List Bool × List Int} {j : Int} (hj : S j) : Ext S s (addQ s j) ∧ on (addQ s j).1 j.toNat := by
  unfold addQ
  cases h : s.1.getD j.toNat true
  · simp only [cond_false]
    have := offs_set h
    refine ⟨⟨fun i hi => on_set.2 (.inl hi), ⟨[j], rfl, fun q hq => ?_⟩, List.length_set .., ?_, fun i hi0 hi => ?_⟩, on_set.2 (.inr rfl)⟩
    · rw [List.mem_singleton] at hq
      subst hq
      exact ⟨on_set.2 (.inr rfl), hj⟩
    · simp only [List.length_append, List.length_singleton]
      omega
    · rcases on_set.1 hi with h1 | h1
      · exact .inl h1
      · have := h0 j hj
        have : i = j := by omega
        subst this
        exact .inr (by simp)
  · exact ⟨Ext.refl s, h⟩
theorem ext_fold {S : Int → Prop} (h0 : ∀ i, S i → 0 ≤ i) : ∀ {js : List Int} (_ : ∀ j ∈ js, S j) (s : List Bool × List Int), Ext S s (js.foldl addQ s) ∧ ∀ j ∈ js, on (js.foldl addQ s).1 j.toNat
  | [], _, s => ⟨Ext.refl s, fun j hj => by simp at hj⟩
  | j :: js, hj, s => by
    have h1 := ext_add h0 (s := s) (hj j (by simp))
    have h2 := ext_fold h0 (js := js) (fun q hq => hj q (by simp [hq])) (addQ s j)
    simp only [List.foldl_cons]
    refine ⟨h1.1.trans h2.1, fun q hq => ?_⟩
    rcases List.mem_cons.1 hq with rfl | hq
    · exact h2.1.sub _ h1.2
    · exact h2.2 q hq
theorem bq_ext {g : Int → List Int} {S : Int → Prop} (h0 : ∀ i, S i → 0 ≤ i) (hS : ∀ i, S i → ∀ j ∈ g i, S j) {s : List Bool × List Int} (hs : ∀ j ∈ s.2, S j) : ∀ n : Nat, Ext S s (bq g s n) ∧ (∀ j ∈ (bq g s n).2, S j) ∧ ∀ t : Nat, t < n → t < (bq g s n).2.length → ∀ j ∈ g ((bq g s n).2.getD t 0), on (bq g s n).1 j.toNat
  | 0 => ⟨Ext.refl s, hs, fun t h => absurd h (Nat.not_lt_zero _)⟩
  | n + 1 => by
    obtain ⟨h1, h2, h3⟩ := bq_ext h0 hS hs n
    rw [bq_succ]
    generalize bq g s n = q at h1 h2 h3
    show Ext S s (bstep g q n) ∧ (∀ j ∈ (bstep g q n).2, S j) ∧ ∀ t : Nat, t < n + 1 → t < (bstep g q n).2.length → ∀ j ∈ g ((bstep g q n).2.getD t 0), on (bstep g q n).1 j.toNat
    unfold bstep
    cases hc : decide (n < q.2.length)
    · simp only [cond_false]
      have := of_decide_eq_false hc
      exact ⟨h1, h2, fun t ht ht2 => h3 t (by omega) ht2⟩
    · simp only [cond_true]
      have hn := of_decide_eq_true hc
      have hm : q.2.getD n 0 ∈ q.2 := by
        rw [List.getD_eq_getElem?_getD, List.getElem?_eq_getElem hn]
        exact List.getElem_mem _
      obtain ⟨e1, e2⟩ := ext_fold h0 (hS _ (h2 _ hm)) q
      obtain ⟨r, hr, hr2⟩ := e1.app
      refine ⟨h1.trans e1, fun j hj => ?_, fun t ht ht2 j hj => ?_⟩
      · rw [hr] at hj
        rcases List.mem_append.1 hj with hj | hj
        · exact h2 j hj
        · exact (hr2 j hj).2
      · have hlt : t < q.2.length := by omega
        have e : ((g (q.2.getD n 0)).foldl addQ q).2.getD t 0 = q.2.getD t 0 := by
          rw [hr]
          simp only [List.getD_eq_getElem?_getD, List.getElem?_append_left hlt]
        rw [e] at hj
        by_cases htn : t = n
        · subst htn
          exact e2 j hj
        · exact e1.sub _ (h3 t (by omega) hlt j hj)
/-! ### both ways come to the same -/
def Cl (g : Int → List Int) (l : List Bool) : Prop := ∀ i : Int, 0 ≤ i → i < l.length → on l i.toNat → ∀ j ∈ g i, on l j.toNat
def InN (n : Nat) (j : Int) : Prop := 0 ≤ j ∧ j < n
theorem bfs_ends {g : Int → List Int} {n : Nat} (hg : ∀ i, ∀ j ∈ g i, InN n j) {l : List Bool} {k : Int} (hl : l.length = n) (hk : InN n k) (ho : l.getD k.toNat true = false) (i : Nat) : (bq g (l.set k.toNat true, [k]) i).1.length = n ∧ (bq g (l.set k.toNat true, [k]) i).2.length ≤ n ∧ ∀ j ∈ (bq g (l.set k.toNat true, [k]) i).2, InN n j := by
  obtain ⟨h1, h2, _⟩ := bq_ext (g := g) (S := InN n) (fun _ h => h.1) (fun i _ j hj => hg i j hj) (s := (l.set k.toNat true, [k])) (fun j hj => by
    have : j = k := by simpa using hj
    rw [this]; exact hk) i
  have hc := h1.cnt
  have hs := offs_set ho
  have hle := offs_le l
  have hln := h1.len
  simp only [List.length_singleton, List.length_set] at hc hln
  exact ⟨by rw [hln, hl], by omega, h2⟩
theorem bfs_facts {g : Int → List Int} {n : Nat} (hg : ∀ i, ∀ j ∈ g i, InN n j) {l : List Bool} {k : Int} (hl : l.length = n) (hk : InN n k) (ho : l.getD k.toNat true = false) (hc : Cl g l) :
    (bfs g k l).length = n ∧ (∀ i, on l i → on (bfs g k l) i) ∧ on (bfs g k l) k.toNat ∧ Cl g (bfs g k l) := by
  obtain ⟨hl1, hl2, _⟩ := bfs_ends hg hl hk ho l.length
  obtain ⟨h1, h2, h3⟩ := bq_ext (g := g) (S := InN n) (fun _ h => h.1) (fun i _ j hj => hg i j hj) (s := (l.set k.toNat true, [k])) (fun j hj => by
    have : j = k := by simpa using hj
    rw [this]; exact hk) l.length
  unfold bfs
  have hsub : ∀ i, on l i → on (bq g (l.set k.toNat true, [k]) l.length).1 i := fun i hi => h1.sub i (on_set.2 (.inl hi))
  refine ⟨hl1, hsub, h1.sub _ (on_set.2 (.inr rfl)), fun i h0 hi hon j hj => ?_⟩
  have hin : i ∈ (bq g (l.set k.toNat true, [k]) l.length).2 → on (bq g (l.set k.toNat true, [k]) l.length).1 j.toNat := fun hm => by
    obtain ⟨t, ht, he⟩ := List.mem_iff_getElem.1 hm
    refine h3 t (by omega) ht j ?_
    rw [List.getD_eq_getElem?_getD, List.getElem?_eq_getElem ht]
    simp only [Option.getD_some, he]
    exact hj
  rcases h1.new i h0 hon with h | h
  · rcases on_set.1 h with h | h
    · exact hsub _ (hc i h0 (by omega) h j hj)
    · have h5 := hk.1
      have : i = k := by omega
      subst this
      obtain ⟨r, hr, _⟩ := h1.app
      exact hin (by rw [hr]; simp)
  · exact hin h
theorem bfs_least {g : Int → List Int} {S : Int → Prop} (h0 : ∀ i, S i → 0 ≤ i) (hS : ∀ i, S i → ∀ j ∈ g i, S j) {l : List Bool} {k : Int} (hk : S k) (i : Nat) (h : on (bfs g k l) i) : on l i ∨ S i := by
  obtain ⟨h1, h2, _⟩ := bq_ext (g := g) h0 hS (s := (l.set k.toNat true, [k])) (fun j hj => by
    have : j = k := by simpa using hj
    rw [this]; exact hk) l.length
  unfold bfs at h
  rcases h1.new i (by omega) h with h | h
  · rcases on_set.1 h with h | h
    · exact .inl h
    · have := h0 k hk
      have e : (i : Int) = k := by omega
      exact .inr (by rw [e]; exact hk)
  · exact .inr (h2 _ h)
theorem rch_facts {g : Int → List Int} {n : Nat} (hg : ∀ i, ∀ j ∈ g i, InN n j) {l : List Bool} {k : Int} (hl : l.length = n) (hk : InN n k) (hc : Cl g l) :
    (rch g k l).length = n ∧ (∀ i, on l i → on (rch g k l) i) ∧ on (rch g k l) k.toNat ∧ Cl g (rch g k l) := by
  have h := grow_dfs (g := g) (fun i j hj => (hg i j hj).1) (offs l + 1) k l hk.1 (by omega)
  refine ⟨by rw [rch_len, hl], h.sub, h.new k (by simp), fun i h0 hi hon j hj => ?_⟩
  have hi' : i < l.length := by rw [rch_len] at hi; exact hi
  rcases h.nbs i h0 hon with h1 | h1
  · exact h.sub _ (hc i h0 hi' h1 j hj)
  · exact h1 j hj
theorem rch_bfs {g g' : Int → List Int} {n : Nat} (hg : ∀ i, ∀ j ∈ g i, InN n j) (hg' : ∀ i, ∀ j ∈ g' i, InN n j) (he : ∀ i, InN n i → g i = g' i) {l : List Bool} {k : Int} (hl : l.length = n) (hk : InN n k) (ho : l.getD k.toNat true = false) (hc : Cl g' l) :
    rch g k l = bfs g' k l := by
  have hcg : Cl g l := fun i h0 h1 => by
    rw [he i ⟨h0, by omega⟩]
    exact hc i h0 h1
  obtain ⟨b1, b2, b3, b4⟩ := bfs_facts hg' hl hk ho hc
  obtain ⟨d1, d2, d3, d4⟩ := rch_facts hg hl hk hcg
  refine on_ext (by rw [b1, d1]) fun i => ⟨fun h => ?_, fun h => ?_⟩
  · rcases least_dfs (g := g) (S := fun i => InN n i ∧ on (bfs g' k l) i.toNat) (fun i h => h.1.1) (fun i h j hj => ⟨hg i j hj, b4 i h.1.1 (by rw [b1]; exact h.1.2) h.2 j (by rw [← he i h.1]; exact hj)⟩) (offs l + 1) k l ⟨hk, b3⟩ i h with h | h
    · exact b2 i h
    · exact h.2
  · rcases bfs_least (g := g') (S := fun i => InN n i ∧ on (rch g k l) i.toNat) (fun i h => h.1.1) (fun i h j hj => ⟨hg' i j hj, d4 i h.1.1 (by rw [d1]; exact h.1.2) h.2 j (by rw [he i h.1]; exact hj)⟩) ⟨hk, d3⟩ i h with h | h
    · exact d2 i h
    · exact h.2
theorem getD_in {l : List Bool} {i : Nat} (h : i < l.length) : l.getD i false = l.getD i true := by
  rw [List.getD_eq_getElem?_getD, List.getD_eq_getElem?_getD, List.getElem?_eq_getElem h]
  rfl
theorem pcs_succ (f : Int → List Bool → List Bool) (n i : Nat) : pcs f n (i + 1) = bif (pcs f n i).1.getD i true then pcs f n i else (f i (pcs f n i).1, (pcs f n i).2 + 1) := rfl
theorem pcs_eq {g g' : Int → List Int} {n : Nat} (hg : ∀ i, ∀ j ∈ g i, InN n j) (hg' : ∀ i, ∀ j ∈ g' i, InN n j) (he : ∀ i, InN n i → g i = g' i) : ∀ i : Nat, i ≤ n → pcs (rch g) n i = pcs (bfs g') n i ∧ (pcs (bfs g') n i).1.length = n ∧ Cl g' (pcs (bfs g') n i).1 ∧ 0 ≤ (pcs (bfs g') n i).2 ∧ (pcs (bfs g') n i).2 ≤ i
  | 0, _ => by
    refine ⟨rfl, List.length_replicate, fun i h0 hi hon => ?_, Int.le_refl _, Int.le_refl _⟩
    have hi' : i.toNat < n := by
      simp only [pcs, List.length_replicate] at hi
      omega
    simp [pcs, on, List.getD_eq_getElem?_getD, List.getElem?_replicate, hi'] at hon
  | i + 1, h => by
    obtain ⟨h1, h2, h3, h4, h5⟩ := pcs_eq hg hg' he i (by omega)
    rw [pcs_succ, pcs_succ, h1]
    cases ho : (pcs (bfs g') n i).1.getD i true
    · simp only [cond_false]
      have hin : InN n (i : Int) := ⟨by omega, by omega⟩
      obtain ⟨b1, _, _, b4⟩ := bfs_facts hg' h2 hin ho h3
      exact ⟨by rw [rch_bfs hg hg' he h2 hin ho h3], b1, b4, by omega, by omega⟩
    · simp only [cond_true]
      exact ⟨trivial, h2, h3, h4, by omega⟩
/-! ### lines -/
theorem box_C {c : Cr} (h : crB c = true) : (3 ≤ c.w ∧ c.w ≤ 6) ∧ (3 ≤ c.h ∧ c.h ≤ 6) := by
  obtain ⟨h1, _⟩ := crB_iff.1 h
  obtain ⟨h2, h3, _⟩ := box_iff.1 h1
  exact ⟨h2, h3⟩
theorem nbC_in {c : Cr} (h : crB c = true) (k q : Int) : 0 ≤ nbC c k q ∧ nbC c k q < c.w * c.h := by
  obtain ⟨hw, hh⟩ := box_C h
  have := cell_ix (w := c.w) (h := c.h) (u := (movC (seeC c k q)).y) (x := (movC (seeC c k q)).x) (by omega) (emod_bd _ (m := c.w) (by omega)) (emod_bd _ (m := c.h) (by omega))
  exact ⟨this.1, this.2.1⟩
theorem gqC_in {c : Cr} (h : crB c = true) (k : Int) : ∀ q : Nat, ∀ j ∈ gqC c k q, 0 ≤ j ∧ j < c.w * c.h
  | 0, j, hj => by simp [gqC] at hj
  | q + 1, j, hj => by
    unfold gqC at hj
    rcases List.mem_append.1 hj with hj | hj
    · exact gqC_in h k q j hj
    · cases hb : hasA (seeC c k (q : Nat))
      · rw [hb] at hj; simp at hj
      · rw [hb] at hj
        have : j = nbC c k (q : Nat) := by simpa using hj
        rw [this]
        exact nbC_in h k _
theorem nbW_in {m : Wo} (h : womB m = true) (k q : Int) : 0 ≤ nbW m k q ∧ nbW m k q < m.w * m.h := by
  obtain ⟨hw, hh, _⟩ := wom_facts h
  have := cell_ix (w := m.w) (h := m.h) (u := (goW (atW m k) q 1).y) (x := (goW (atW m k) q 1).x) (by omega) (emod_bd _ (m := m.w) (by omega)) (emod_bd _ (m := m.h) (by omega))
  exact ⟨this.1, this.2.1⟩
theorem gqW_in {m : Wo} (h : womB m = true) (k : Int) : ∀ q : Nat, ∀ j ∈ gqW m k q, 0 ≤ j ∧ j < m.w * m.h
  | 0, j, hj => by simp [gqW] at hj
  | q + 1, j, hj => by
    unfold gqW at hj
    rcases List.mem_append.1 hj with hj | hj
    · exact gqW_in h k q j hj
    · cases hb : hasW m (k % m.w) (k / m.w) (q : Nat)
      · rw [hb] at hj; simp at hj
      · rw [hb] at hj
        have : j = nbW m k (q : Nat) := by simpa using hj
        rw [this]
        exact nbW_in h k _
theorem nb_of (m : Wo) (k q : Int) : nbC (crOf m) k q = nbW m k q := by
  simp only [nbC, nbW, movC, seeC, crOf, goW, atW, Int.one_mul]
theorem cut_xy {w h i : Int} (hw : 3 ≤ w ∧ w ≤ 6) (hi : 0 ≤ i ∧ i < w * h) : (0 ≤ i % w ∧ i % w ≤ w - 1) ∧ (0 ≤ i / w ∧ i / w ≤ h - 1) := by
  have hx := emod_bd i (m := w) (by omega)
  have hy : 0 ≤ i / w := Int.ediv_nonneg hi.1 (by omega)
  have hy2 : i / w < h := Int.ediv_lt_of_lt_mul (by omega) (by rw [Int.mul_comm]; exact hi.2)
  exact ⟨hx, by omega⟩
theorem gq_of {m : Wo} (h : womB m = true) {k : Int} (hk : 0 ≤ k ∧ k < m.w * m.h) : ∀ q : Nat, gqC (crOf m) k q = gqW m k q
  | 0 => rfl
  | q + 1 => by
    obtain ⟨hw, hh, _⟩ := wom_facts h
    obtain ⟨hx, hy⟩ := cut_xy hw hk
    have e : hasA (seeC (crOf m) k (q : Nat)) = hasW m (k % m.w) (k / m.w) (q : Nat) := hasA_of h (c := seeC (crOf m) k (q : Nat)) rfl rfl rfl hx hy
    unfold gqC gqW
    rw [gq_of h hk q, e, nb_of]
/-! ### the conditions -/
theorem retG_br {l l' : List Bool} {e : TypeId} {J : List Blk} (h : l' = l) : retG 1 (.tup []) [⟨.bools l, e, .row⟩] (.tup []) (⟨.bools l', e, .row⟩ :: J) := by
  subst h
  unfold retG leSel leSelBy autoSel
  simp [pairsL, pairsV, idPairs, pairsIn, selOf, lookN, selMem, chkB, nodupSel, hasSel, prefSel, leSt, leL, leV, nilToL, V.nilTo, selL, V.sel, Cells.selN, leMem, leCells, memUnder, underL, V.under]
theorem rc_succ (c : Cr) (k : Int) (l : List Bool) {a : Int} (h : ((a.toNat : Nat) : Int) = a) (h2 : (a + 1).toNat = a.toNat + 1) : rcRow c k l (a + 1) = bif hasA (seeC c k a) then rch (gC c) (nbC c k a) (rcRow c k l a) else rcRow c k l a := by
  unfold rcRow rchs
  rw [h2, gqC, h]
  cases hasA (seeC c k a)
  · simp
  · simp [List.foldl_append]
theorem vc_impl_crawler_reach (cr : List UInt8) (cw ch : Int) (cc : List UInt8) (cx cy cd : Int) (cl : List UInt8) (k : Int) (n : Nat) (l : List Bool) (mm : Nat) (h : offs l < mm + 1 ∧ crB ⟨cr, cw, ch, cc, cx, cy, cd, cl⟩ = true ∧ (l.length : Int) = cw * ch ∧ n = l.length ∧ 0 ≤ k ∧ k < cw * ch) :
    VC_impl_crawler_reach cr cw ch cc cx cy cd cl k n l mm (retG 1 (.tup []) [⟨.bools (rch (gC ⟨cr, cw, ch, cc, cx, cy, cd, cl⟩) k l), 4, .row⟩]) := by
  obtain ⟨ho, hg, hl, rfl, hk⟩ := h
  have hkn : k.toNat < l.length := by omega
  obtain ⟨hb, _⟩ := crB_iff.1 hg
  obtain ⟨h1, h2⟩ := box_C hg
  simp only at h1 h2
  have hm := mul_bd6 h1 h2
  unfold VC_impl_crawler_reach
  rw [getD_in hkn]
  simp only [at_iff, true_and, and_true, and_self]
  refine ⟨by omega, hkn, fun hon => retG_br (rch_on hon).symm, fun hoff => ⟨by omega, hkn, ?_⟩⟩
  have hs := offs_set hoff
  refine ⟨rfl, ⟨by omega, by omega⟩, fun i hi => ⟨fun hlt => ?_, fun hge => ?_⟩⟩
  · have hlt := of_decide_eq_true hlt
    obtain ⟨s1, s2, s3, s4, s5, s6⟩ := four_step hi hlt
    have hse := see_box hg (k := k) (q := i) hk ⟨hi.1, by omega⟩
    have hn := nbC_in hg k i
    have hr := rchs_len (gC ⟨cr, cw, ch, cc, cx, cy, cd, cl⟩) (gqC ⟨cr, cw, ch, cc, cx, cy, cd, cl⟩ k i.toNat) (l.set k.toNat true)
    have e := rc_succ ⟨cr, cw, ch, cc, cx, cy, cd, cl⟩ k (l.set k.toNat true) s5 s4
    have hbs := (crB_iff.1 hse).1
    rw [List.length_set] at hr
    refine ⟨⟨inB_eq.2 h1, by omega, by omega⟩, hse, fun hh => ⟨hbs, ?_, ⟨?_, hg, ?_, ?_, hn⟩, ?_, s1, s2⟩, fun hh => ⟨?_, s1, s2⟩⟩
    · exact mov_box hbs
    · show offs (rchs _ _ _) < mm
      omega
    · show ((rchs _ _ _).length : Int) = _
      rw [hr.2, hl]
    · exact hr.2.symm
    · rw [s3, e, hh, cond_true]; rfl
    · rw [s3, e, hh, cond_false]
  · have := of_decide_eq_false hge
    obtain ⟨h0, h4⟩ := hi
    refine retG_br ?_
    rw [rch_off hoff]
    unfold rcRow
    rw [show i.toNat = 4 by omega]
    rfl
theorem retP_pi {a b : Int} {x y : Bool} (h : b = a) (hx : y = x) : retP (.tup [.int .i64 a, .bool x]) (.tup [.int .i64 b, .lit y]) := by
  subst h; subst hx
  simp [retP, leV, leL, chkB, V.under, underL]
theorem g_in {m : Wo} (h : womB m = true) : (∀ i, ∀ j ∈ gC (crOf m) i, InN m.r.length j) ∧ (∀ i, ∀ j ∈ gW m i, InN m.r.length j) ∧ ∀ i, InN m.r.length i → gC (crOf m) i = gW m i := by
  have hl := wom_len h
  refine ⟨fun i j hj => ?_, fun i j hj => ?_, fun i hi => ?_⟩
  · have : 0 ≤ j ∧ j < m.w * m.h := gqC_in (crB_of h) i 4 j hj
    exact ⟨this.1, by omega⟩
  · have := gqW_in h i 4 j hj
    exact ⟨this.1, by omega⟩
  · exact gq_of h ⟨hi.1, by have := hi.2; omega⟩ 4
theorem pie_at {m : Wo} (h : womB m = true) {i : Int} (hi : 0 ≤ i ∧ i ≤ m.r.length) : piF m i = spF m i ∧ (spF m i).1.length = m.r.length ∧ Cl (gW m) (spF m i).1 ∧ 0 ≤ (spF m i).2 ∧ (spF m i).2 ≤ i := by
  obtain ⟨h1, h2, h3⟩ := g_in h
  obtain ⟨p1, p2, p3, p4, p5⟩ := pcs_eq h1 h2 h3 i.toNat (by omega)
  exact ⟨p1, p2, p3, p4, Int.le_trans p5 (by omega)⟩
theorem pcF_succ (f : Int → List Bool → List Bool) (n : Nat) {i : Int} (h : 0 ≤ i) : pcs f n (i + 1).toNat = bif (pcs f n i.toNat).1.getD i.toNat true then pcs f n i.toNat else (f i (pcs f n i.toNat).1, (pcs f n i.toNat).2 + 1) := by
  rw [show (i + 1).toNat = i.toNat + 1 by omega, pcs_succ, show ((i.toNat : Nat) : Int) = i by omega]
theorem vc_impl_PiecesLeft (mw mh : Int) (mr mn : List UInt8) (mx my md : Int) (_ : True) : VC_impl_PiecesLeft mw mh mr mn mx my md (retP (.tup [.int .i64 (bif womB ⟨mw, mh, mr, mn, mx, my, md⟩ then pieW ⟨mw, mh, mr, mn, mx, my, md⟩ else 0), .bool (womB ⟨mw, mh, mr, mn, mx, my, md⟩)])) := by
  unfold VC_impl_PiecesLeft
  cases hw : womB ⟨mw, mh, mr, mn, mx, my, md⟩
  · exact ⟨⟨trivial⟩, fun _ => retP_pi rfl rfl, fun h => by simp at h⟩
  · have hl := wom_len hw
    obtain ⟨hd1, hd2, _⟩ := wom_facts hw
    have hcr := crB_of hw
    have hbx := (crB_iff.1 hcr).1
    simp only at hl hd1 hd2
    have ec : ∀ m : Wo, (crOf m).w = m.w := fun _ => rfl
    have eh : ∀ m : Wo, (crOf m).h = m.h := fun _ => rfl
    simp only [at_iff, true_and, and_true, and_self, ec, eh, hbx, hcr]
    refine ⟨fun h => by simp at h, fun _ => ⟨⟨by omega, by omega, by omega⟩, ⟨⟨by omega, rfl⟩, ?_⟩, ⟨hw, by omega, by show (0 : Int) ≤ mw * mh; omega⟩, fun i hi => ⟨fun hlt => ?_, fun hge => ?_⟩⟩⟩
    · rw [show (mw * mh).toNat = mr.length by omega]; rfl
    · have hlt := of_decide_eq_true hlt
      have h0 := hi.2.1
      obtain ⟨p1, p2, p3, p4, p5⟩ := pie_at hw (i := i) ⟨h0, by show i ≤ (mr.length : Int); omega⟩
      have hlen : (piF ⟨mw, mh, mr, mn, mx, my, md⟩ i).1.length = mr.length := by rw [p1]; exact p2
      have hoff := offs_le (piF ⟨mw, mh, mr, mn, mx, my, md⟩ i).1
      have hs := pcF_succ (rch (gC (crOf ⟨mw, mh, mr, mn, mx, my, md⟩))) mr.length h0
      have hin : i.toNat < (piF ⟨mw, mh, mr, mn, mx, my, md⟩ i).1.length := by omega
      rw [← p1] at p4 p5
      rw [wrap64_in (x := i + 1) (by omega), getD_in hin]
      have hinv : piInv ⟨mw, mh, mr, mn, mx, my, md⟩ (i + 1) := ⟨hw, by omega, by show i + 1 ≤ mw * mh; omega⟩
      have hs' : piF ⟨mw, mh, mr, mn, mx, my, md⟩ (i + 1) = bif (piF ⟨mw, mh, mr, mn, mx, my, md⟩ i).1.getD i.toNat true then piF ⟨mw, mh, mr, mn, mx, my, md⟩ i else (rch (gC (crOf ⟨mw, mh, mr, mn, mx, my, md⟩)) i (piF ⟨mw, mh, mr, mn, mx, my, md⟩ i).1, (piF ⟨mw, mh, mr, mn, mx, my, md⟩ i).2 + 1) := hs
      refine ⟨⟨h0, by omega⟩, hin, fun hg => ⟨⟨by omega, by omega, hlen.symm, h0, hlt⟩, ?_, hinv, by omega⟩, fun hg => ⟨?_, hinv, by omega⟩⟩
      · have hg' : (piF ⟨mw, mh, mr, mn, mx, my, md⟩ i).1.getD i.toNat true = false := by simpa using hg
        rw [hs', hg', cond_false, wrap64_in (by omega)]
        exact ⟨rfl, rfl⟩
      · have hg' : (piF ⟨mw, mh, mr, mn, mx, my, md⟩ i).1.getD i.toNat true = true := by simpa using hg
        rw [hs', hg', cond_true]
        exact ⟨rfl, rfl⟩
    · have hge := of_decide_eq_false hge
      obtain ⟨_, h0, h1⟩ := hi
      simp only at h1
      have hi' : i = (mr.length : Int) := by omega
      obtain ⟨p1, _⟩ := pie_at hw (i := i) ⟨h0, by show i ≤ (mr.length : Int); omega⟩
      refine retP_pi ?_ rfl
      rw [p1, hi', cond_true]
      rfl
theorem wa_succ (m : Wo) (s : List Bool × List Int) (k : Int) {q : Int} (h : ((q.toNat : Nat) : Int) = q) (h2 : (q + 1).toNat = q.toNat + 1) : waF m s k (q + 1) = bif hasW m (s.2.getD k.toNat 0 % m.w) (s.2.getD k.toNat 0 / m.w) q then addQ (waF m s k q) (nbW m (s.2.getD k.toNat 0) q) else waF m s k q := by
  unfold waF
  rw [h2, gqW, h]
  cases hasW m (s.2.getD k.toNat 0 % m.w) (s.2.getD k.toNat 0 / m.w) q
  · simp
  · simp [List.foldl_append]
theorem wa_ext {m : Wo} (h : womB m = true) (s : List Bool × List Int) (k q : Int) : Ext (InN m.r.length) s (waF m s k q) := by
  have hl := wom_len h
  unfold waF
  refine (ext_fold (S := InN m.r.length) (fun _ h => h.1) (fun j hj => ?_) s).1
  have := gqW_in h _ _ j hj
  exact ⟨this.1, by omega⟩
theorem qu_succ (m : Wo) (l : List Bool) (i : Int) {k : Int} (h : 0 ≤ k) (hk : k < (quF m l i k).2.length) : quF m l i (k + 1) = waF m (quF m l i k) k 4 := by
  unfold quF at hk ⊢
  rw [show (k + 1).toNat = k.toNat + 1 by omega, bq_succ]
  unfold bstep
  rw [decide_eq_true (by omega), cond_true]
  rfl
theorem qu_end (m : Wo) (l : List Bool) (i : Int) (k : Nat) (hk : (bq (gW m) (l.set i.toNat true, [i]) k).2.length ≤ k) : ∀ d : Nat, bq (gW m) (l.set i.toNat true, [i]) (k + d) = bq (gW m) (l.set i.toNat true, [i]) k
  | 0 => rfl
  | d + 1 => by
    have ih := qu_end m l i k hk d
    rw [← Nat.add_assoc, bq_succ, ih]
    unfold bstep
    rw [decide_eq_false (by omega), cond_false]
theorem vc_spec_PiecesLeft (mw mh : Int) (mr mn : List UInt8) (mx my md : Int) (_ : True) : VC_spec_PiecesLeft mw mh mr mn mx my md (retP (.tup [.int .i64 (bif womB ⟨mw, mh, mr, mn, mx, my, md⟩ then pieW ⟨mw, mh, mr, mn, mx, my, md⟩ else 0), .bool (womB ⟨mw, mh, mr, mn, mx, my, md⟩)])) := by
  unfold VC_spec_PiecesLeft
  cases hw : womB ⟨mw, mh, mr, mn, mx, my, md⟩
  · exact ⟨⟨trivial⟩, fun _ => retP_pi rfl rfl, fun h => by simp at h⟩
  · have hl := wom_len hw
    obtain ⟨hd1, hd2, _⟩ := wom_facts hw
    have hgin := (g_in hw).2.1
    simp only at hl hd1 hd2 hgin
    simp only [at_iff, true_and, and_true, and_self, Int.toNat_natCast]
    refine ⟨fun h => by simp at h, fun _ => ⟨⟨by omega, by omega, by omega⟩, ?_, ⟨hw, by omega, by show (0 : Int) ≤ mr.length; omega⟩, fun i hi => ⟨fun hlt => ?_, fun hge => ?_⟩⟩⟩
    · exact ⟨rfl, rfl⟩
    · have hlt := of_decide_eq_true hlt
      have h0 := hi.2.1
      obtain ⟨_, p2, p3, p4, p5⟩ := pie_at hw (i := i) ⟨h0, by show i ≤ (mr.length : Int); omega⟩
      have hs : spF ⟨mw, mh, mr, mn, mx, my, md⟩ (i + 1) = bif (spF ⟨mw, mh, mr, mn, mx, my, md⟩ i).1.getD i.toNat true then spF ⟨mw, mh, mr, mn, mx, my, md⟩ i else (bfs (gW ⟨mw, mh, mr, mn, mx, my, md⟩) i (spF ⟨mw, mh, mr, mn, mx, my, md⟩ i).1, (spF ⟨mw, mh, mr, mn, mx, my, md⟩ i).2 + 1) := pcF_succ (bfs (gW ⟨mw, mh, mr, mn, mx, my, md⟩)) mr.length h0
      have hinv : spInv ⟨mw, mh, mr, mn, mx, my, md⟩ (i + 1) := ⟨hw, by omega, by show i + 1 ≤ (mr.length : Int); omega⟩
      simp only at p2
      rw [getD_in (by omega), wrap64_in (x := i + 1) (by omega)]
      generalize hSP : spF ⟨mw, mh, mr, mn, mx, my, md⟩ i = SP at p2 p3 p4 p5 hs ⊢
      refine ⟨⟨h0, hlt⟩, by omega, fun hg => ⟨?_, hinv, by omega⟩, fun hg => ?_⟩
      · rw [hs, hg, cond_true]
        exact ⟨rfl, rfl⟩
      have hin : InN mr.length i := ⟨h0, hlt⟩
      have hq := bfs_ends hgin p2 hin hg
      refine ⟨⟨h0, hlt⟩, by omega, ⟨rfl, rfl⟩, ⟨Int.le_refl _, by show (0 : Int) ≤ ((1 : Nat) : Int); omega⟩, fun k hk => ⟨fun hlk => ?_, fun hgk => ?_⟩⟩
      · have hlk := of_decide_eq_true hlk
        have hk0 := hk.1
        obtain ⟨q1, q2, q3⟩ := hq k.toNat
        have hqs := qu_succ ⟨mw, mh, mr, mn, mx, my, md⟩ SP.1 i hk0 hlk
        have hqn : quF ⟨mw, mh, mr, mn, mx, my, md⟩ SP.1 i (k + 1) = _ := hqs
        change (quF ⟨mw, mh, mr, mn, mx, my, md⟩ SP.1 i k).1.length = mr.length at q1
        change (quF ⟨mw, mh, mr, mn, mx, my, md⟩ SP.1 i k).2.length ≤ mr.length at q2
        change ∀ j ∈ (quF ⟨mw, mh, mr, mn, mx, my, md⟩ SP.1 i k).2, InN mr.length j at q3
        have hkm : k + 1 < 100 := by omega
        have hkinv : quInv ⟨mw, mh, mr, mn, mx, my, md⟩ SP.1 i (k + 1) := by
          refine ⟨by omega, ?_⟩
          rw [hqs]
          have hx := (wa_ext hw (quF ⟨mw, mh, mr, mn, mx, my, md⟩ SP.1 i k) k 4).app
          obtain ⟨r, hr, _⟩ := hx
          rw [hr, List.length_append]
          omega
        rw [wrap64_in (x := k + 1) (by omega)]
        generalize quF ⟨mw, mh, mr, mn, mx, my, md⟩ SP.1 i k = QU at q1 q2 q3 hlk hqs ⊢
        refine ⟨?_, ⟨by omega, by omega⟩, fun q hq4 => ⟨fun hl4 => ?_, fun hg4 => ?_⟩⟩
        · exact ⟨rfl, rfl, rfl⟩
        · have hl4 := of_decide_eq_true hl4
          obtain ⟨s1, s2, s3, s4, s5, s6⟩ := four_step hq4 hl4
          have hx := wa_ext hw QU k q
          have he := wa_succ ⟨mw, mh, mr, mn, mx, my, md⟩ QU k s5 s4
          have hv : (waF ⟨mw, mh, mr, mn, mx, my, md⟩ QU k q).2.getD k.toNat 0 = QU.2.getD k.toNat 0 := by
            obtain ⟨r, hr, _⟩ := hx.app
            rw [hr]
            simp only [List.getD_eq_getElem?_getD, List.getElem?_append_left (show k.toNat < QU.2.length by omega)]
          have hm : InN mr.length (QU.2.getD k.toNat 0) := q3 _ (by
            rw [List.getD_eq_getElem?_getD, List.getElem?_eq_getElem (show k.toNat < QU.2.length by omega)]
            exact List.getElem_mem _)
          have hle : QU.2.length ≤ (waF ⟨mw, mh, mr, mn, mx, my, md⟩ QU k q).2.length := by
            obtain ⟨r, hr, _⟩ := hx.app
            rw [hr, List.length_append]
            omega
          have hxl := hx.len
          have hxc := hx.cnt
          have ho1 := offs_le QU.1
          rw [hv, s3, he]
          rw [s3] at s1 s2
          simp only
          generalize waF ⟨mw, mh, mr, mn, mx, my, md⟩ QU k q = WA at hle hxl hxc ⊢
          generalize QU.2.getD k.toNat 0 = v at hm ⊢
          obtain ⟨c1, c2⟩ := cut_xy (w := mw) (h := mh) (i := v) hd1 ⟨hm.1, by have := hm.2; omega⟩
          have hnb := nbW_in hw v q
          have hY := cell_ix (w := mw) (h := mh) (u := (goW (atW ⟨mw, mh, mr, mn, mx, my, md⟩ v) q 1).y) (x := (goW (atW ⟨mw, mh, mr, mn, mx, my, md⟩ v) q 1).x) (by omega) (emod_bd _ (m := mw) (by omega)) (emod_bd _ (m := mh) (by omega))
          have hX : 0 ≤ (goW (atW ⟨mw, mh, mr, mn, mx, my, md⟩ v) q 1).x := (emod_bd _ (m := mw) (by omega)).1
          rw [Int.tmod_eq_emod_of_nonneg hm.1, Int.tdiv_eq_ediv_of_nonneg hm.1, wrap64_in (x := v / mw) (by omega)]
          have hat : (⟨mw, mh, mr, mn, v % mw, v / mw, md⟩ : Wo) = atW ⟨mw, mh, mr, mn, mx, my, md⟩ v := rfl
          rw [hat, wrap64_in (x := (goW (atW ⟨mw, mh, mr, mn, mx, my, md⟩ v) q 1).y * mw) (by omega), wrap64_in (x := (goW (atW ⟨mw, mh, mr, mn, mx, my, md⟩ v) q 1).y * mw + (goW (atW ⟨mw, mh, mr, mn, mx, my, md⟩ v) q 1).x) (by omega)]
          have hnw : (goW (atW ⟨mw, mh, mr, mn, mx, my, md⟩ v) q 1).y * mw + (goW (atW ⟨mw, mh, mr, mn, mx, my, md⟩ v) q 1).x = nbW ⟨mw, mh, mr, mn, mx, my, md⟩ v q := rfl
          rw [hnw]
          simp only at hnb
          generalize nbW ⟨mw, mh, mr, mn, mx, my, md⟩ v q = nb at hnb ⊢
          have hnl : nb.toNat < WA.1.length := by omega
          rw [getD_in hnl]
          have b1 : inB (v % mw) 0 (mw - 1) = true := inB_eq.2 c1
          have b2 : inB (v / mw) 0 (mh - 1) = true := inB_eq.2 c2
          have b3 : inB q 0 3 = true := inB_eq.2 ⟨hq4.1, by omega⟩
          refine ⟨⟨hk0, by omega⟩, by omega, by omega, ⟨hk0, by omega⟩, by omega, by omega, ⟨b1, b2, b3⟩, fun hh => ⟨?_, s1, s2⟩, fun hh => ⟨⟨inB_eq.2 hd1, inB_eq.2 hd2, b1, b2, .inl trivial⟩, ⟨hnb.1, by omega⟩, hnl, fun ho => ⟨⟨hnb.1, by omega⟩, hnl, ⟨⟨by omega, by simp⟩, by omega, by omega⟩, ?_, s1, s2⟩, fun ho => ⟨?_, s1, s2⟩⟩⟩
          · have hh' : hasW ⟨mw, mh, mr, mn, mx, my, md⟩ (v % mw) (v / mw) q = false := by simpa using hh
            rw [hh', cond_false]
            exact ⟨rfl, rfl, rfl⟩
          · have hh' : hasW ⟨mw, mh, mr, mn, mx, my, md⟩ (v % mw) (v / mw) q = true := by simpa using hh
            have ho' : WA.1.getD nb.toNat true = false := by simpa using ho
            rw [hh', cond_true]
            unfold addQ
            rw [ho', cond_false]
            exact ⟨by simp, rfl, rfl⟩
          · have hh' : hasW ⟨mw, mh, mr, mn, mx, my, md⟩ (v % mw) (v / mw) q = true := by simpa using hh
            have ho' : WA.1.getD nb.toNat true = true := by simpa using ho
            rw [hh', cond_true]
            unfold addQ
            rw [ho', cond_true]
            exact ⟨rfl, rfl, rfl⟩
        · have hg4 := of_decide_eq_false hg4
          have : q = 4 := by
            have := hq4.1
            have := hq4.2
            omega
          subst this
          rw [hqs]
          exact ⟨⟨rfl, rfl, rfl⟩, hkinv, by omega⟩
      · have hgk := of_decide_eq_false hgk
        have hk0 := hk.1
        have hk1 := hk.2
        have hle := (hq k.toNat).2.1
        have hqe := qu_end ⟨mw, mh, mr, mn, mx, my, md⟩ SP.1 i k.toNat (by
          have : ¬ k < ((bq (gW ⟨mw, mh, mr, mn, mx, my, md⟩) (SP.1.set i.toNat true, [i]) k.toNat).2.length : Int) := hgk
          omega) (mr.length - k.toNat)
        have hk2 : k ≤ mr.length := by
          have : k ≤ ((bq (gW ⟨mw, mh, mr, mn, mx, my, md⟩) (SP.1.set i.toNat true, [i]) k.toNat).2.length : Int) := hk1
          omega
        have hb : bfs (gW ⟨mw, mh, mr, mn, mx, my, md⟩) i SP.1 = (quF ⟨mw, mh, mr, mn, mx, my, md⟩ SP.1 i k).1 := by
          unfold bfs quF
          rw [← hqe, p2, show k.toNat + (mr.length - k.toNat) = mr.length by omega]
        rw [hs, hg, cond_false, hb, wrap64_in (by omega)]
        exact ⟨⟨rfl, rfl⟩, hinv, by omega⟩
    · have hge := of_decide_eq_false hge
      obtain ⟨_, h0, h1⟩ := hi
      simp only at h1
      have hi' : i = (mr.length : Int) := by omega
      refine retP_pi ?_ rfl
      rw [hi', cond_true]
      rfl
end Go.Vi
