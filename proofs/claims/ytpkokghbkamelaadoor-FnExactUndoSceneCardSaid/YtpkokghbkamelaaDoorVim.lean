/- Maps whose keys are structs of numbers and strings: what a look-up and a store give, on private values. -/
import Derived.Test.YtpkokghbkamelaaDoorVib
namespace Go.Vi
open Go.RowKit

inductive KS where
 | int (k : IntKind)
 | str
 | plain
def KS.fits : KS -> V -> Bool
 | .int k, .int k' _ => decide (k = k')
 | .str, .str _ => true
 | _, _ => false
def fitsL : List KS -> List V -> Bool
 | [], [] => true
 | s :: ss, v :: vs => s.fits v && fitsL ss vs
 | _, _ => false
def ksOf (P : Program) (t : TypeId) : Option KS :=
 match P.underlying t with
 | some (.int k) => some (.int k)
 | some .string => some .str
 | _ => none
def ksFields (P : Program) : List Field -> Nat -> Option (List KS)
 | [], _ => some []
 | f :: fs, i =>
  match f.name == "_", Nat.beq f.offset i, ksOf P f.type, ksFields P fs (i + 1) with
  | false, true, some s, some r => some (s :: r)
  | _, _, _, _ => none
/-- The kinds of a key's parts. -/
def keyT (P : Program) (t : TypeId) : Option (List KS) :=
 match P.underlying t with
 | some (.struct fs) => (match P.stoodInHeld t with | false => ksFields P fs.toList 0 | true => none)
 | some (.int k) => some [.plain, .int k]
 | _ => none
/-- Of a key that is a number: its kind. -/
def plainFits : List KS -> IntKind -> Bool
 | [.plain, .int k], k' => decide (k = k')
 | _, _ => false
def keyFits (l : List KS) (v : V) : Bool :=
 match v with
 | .agg cs => fitsL l cs
 | .int k _ => plainFits l k
 | _ => false
def sameC (a b : V) : Bool :=
 match a, b with
 | .int _ x, .int _ y => x == y
 | .str s, .str t => s == t
 | _, _ => false
def sameCs : List V -> List V -> Bool
 | [], [] => true
 | x :: xs, y :: ys => sameC x y && sameCs xs ys
 | _, _ => false
def sameK (a b : V) : Bool :=
 match a, b with
 | .agg xs, .agg ys => sameCs xs ys
 | .int _ x, .int _ y => x == y
 | _, _ => false
/-- Where a key stands, and what it leads to. -/
def findK (k : V) : List (V × V) -> Nat -> Option (Nat × V)
 | [], _ => none
 | (x, v) :: l, i => (match sameK k x with | true => some (i, v) | false => findK k l (i + 1))
/-- A key's value put: in its place, or behind all others. -/
def putK (k v : V) : List (V × V) -> List (V × V)
 | [] => [(k, v)]
 | (x, u) :: l => (match sameK k x with | true => (k, v) :: l | false => (x, u) :: putK k v l)
def keysFit (ks : List KS) (l : List (V × V)) : Bool := l.all fun p => keyFits ks p.1

def lookI (i : V) (l : List (V × V)) : Int :=
 match findK i l 0 with
 | some (_, .int _ n) => n
 | _ => 0
def lookTF (i : V) (l : List (V × V)) : Bool :=
 match findK i l 0 with
 | some (_, .bool b) => b
 | _ => false
def valsBool (l : List (V × V)) : Bool := l.all fun p => match p.2 with | .bool _ => true | _ => false
def valsInt (k : IntKind) (l : List (V × V)) : Bool := l.all fun p => match p.2 with | .int k' _ => decide (k' = k) | _ => false
/-- A value reckoned out ahead of what hangs on it. -/
def V.flat (v : V) (k : V -> Prop) : Prop :=
 match v with
 | .int a n => k (.int a n)
 | .bool b => k (.bool b)
 | .str s => k (.str s)
 | v => k v
theorem V.flat_spec {v : V} {k : V -> Prop} (h : v.flat k) : k v := by cases v <;> exact h
def flatL : List V -> (List V -> Prop) -> Prop
 | [], k => k []
 | v :: r, k => v.flat fun v' => flatL r fun r' => k (v' :: r')
theorem flatL_spec : ∀ {l : List V} {k : List V -> Prop}, flatL l k -> k l
 | [], _, h => h
 | v :: r, k, h => flatL_spec (l := r) (k := fun r' => k (v :: r')) (V.flat_spec (k := fun v' => flatL r fun r' => k (v' :: r')) h)
def V.known (v : V) (k : V -> Prop) : Prop :=
 match v with
 | .int a n => k (.int a n)
 | .bool b => k (.bool b)
 | .str s => k (.str s)
 | .agg l => flatL l fun l' => k (.agg l')
 | v => k v
theorem V.known_spec {v : V} {k : V -> Prop} (h : v.known k) : k v := by
 cases v with
 | agg l => exact flatL_spec (k := fun l' => k (.agg l')) h
 | _ => exact h
/-- m[i] = x -/
def vmapPut (P : Program) (t : TypeId) (mem : List Blk) (m i0 x0 : V) (k : List Blk -> Prop) : Prop :=
 i0.known fun i => x0.known fun x =>
 match m, P.underlying t with
 | .mp b, some (.map kt _) =>
  (match mem[b]?, keyT P kt with
  | some ⟨.map l, e, .map⟩, some ks =>
   (match keyFits ks i, x.under 0 with
   | true, true => At (keysFit ks l = true) /\ k (mem.set b ⟨.map (putK i x l), e, .map⟩)
   | _, _ => False)
  | _, _ => False)
 | _, _ => False
/-- m[i], of numbers -/
def vmapGet (P : Program) (t : TypeId) (mem : List Blk) (m i0 : V) (k : V -> Prop) : Prop :=
 i0.known fun i =>
 match m, P.underlying t with
 | .mp b, some (.map kt et) =>
  (match mem[b]?, keyT P kt, P.info? et with
  | some ⟨.map l, _, .map⟩, some ks, some inf =>
   (match keyFits ks i, inf.zero with
   | true, some (.int kd 0) => At (keysFit ks l = true /\ valsInt kd l = true) /\ k (.int kd (lookI i l))
   | true, some (.bool false) => At (keysFit ks l = true /\ valsBool l = true) /\ k (.bool (lookTF i l))
   | _, _ => False)
  | _, _, _ => False)
 | _, _ => False

/-- A key's entry taken out. -/
def delK (k : V) : List (V × V) -> List (V × V)
 | [] => []
 | (x, u) :: l => (match sameK k x with | true => l | false => (x, u) :: delK k l)
/-- delete(m, i) -/
def vmapDel (P : Program) (t : TypeId) (mem : List Blk) (m i0 : V) (k : List Blk -> Prop) : Prop :=
 i0.known fun i =>
 match m, P.underlying t with
 | .mp b, some (.map kt _) =>
  (match mem[b]?, keyT P kt with
  | some ⟨.map l, e, .map⟩, some ks =>
   (match keyFits ks i with
   | true => At (keysFit ks l = true) /\ k (mem.set b ⟨.map (delK i l), e, .map⟩)
   | false => False)
  | _, _ => False)
 | _, _ => False
/-- len(m) -/
def vmapLen (P : Program) (t : TypeId) (mem : List Blk) (b : Nat) (k : V -> Prop) : Prop :=
 match P.underlying t, mem[b]? with
 | some (.map _ _), some ⟨.map l, _, .map⟩ => At (plainB l = true) /\ k (.int .i64 l.length)
 | _, _ => False
/-- What a map's values are, where they are told. -/
def valKS (P : Program) (t : TypeId) : Option (Option IntKind) :=
 match P.underlying t with
 | some (.int k) => some (some k)
 | some .bool => some none
 | _ => none
def valsKS (q : Option IntKind) (l : List (V × V)) : Bool :=
 match q with
 | some k => valsInt k l
 | none => valsBool l
/-- All keys of a kind. -/
def allParts : List KS -> (List V -> Prop) -> Prop
 | [], k => k []
 | .int kd :: r, k => ∀ n : Int, allParts r fun vs => k (.int kd n :: vs)
 | .str :: r, k => ∀ s : List UInt8, allParts r fun vs => k (.str s :: vs)
 | .plain :: _, _ => False
def allKey (ks : List KS) (k : V -> Prop) : Prop :=
 match ks with
 | [.plain, .int kd] => ∀ n : Int, k (.int kd n)
 | ks => allParts ks fun vs => k (.agg vs)
def allVal (q : Option IntKind) (k : V -> Prop) : Prop :=
 match q with
 | some kd => ∀ n : Int, k (.int kd n)
 | none => ∀ b : Bool, k (.bool b)
/-- range m: from now on the stamps of its entries are told. -/
def vrangeMap (P : Program) (t : TypeId) (mem : List Blk) (b : Nat) (k : V -> List Blk -> Prop) : Prop :=
 match P.underlying t, mem[b]? with
 | some (.map _ _), some ⟨.map l, e, .map⟩ =>
  At (plainB l = true) /\ ∀ (g c : Nat) (bs : List Nat), bs.length = l.length /\ bs.Nodup -> k (.ptr mem.length 0) (mem.set b ⟨.map ((.ptr g 0, .fn c bs) :: l), e, .map⟩ ++ [⟨.map [(.gp g 0, .fn c [])], t, .map⟩])
 | _, _ => False
/-- The first map that is gone through. -/
def stampedAt : List Blk -> Nat -> Option Nat
 | [], _ => none
 | b :: r, i => (match b.cs with | .map ((.ptr _ _, .fn _ _) :: _) => some i | _ => stampedAt r (i + 1))
/-- The iterator, at any of its two forms. -/
def iterAt (mem : List Blk) (it : V) (k : Nat -> Nat -> Nat -> Nat -> List Nat -> TypeId -> Option (V × V) -> Prop) : Prop :=
 match it with
 | .ptr b 0 =>
  (match mem[b]? with
  | some ⟨.map [(.gp g o, .fn c seen)], e, .map⟩ => k b g o c seen e none
  | some ⟨.map [(.gp g o, .fn c seen), p], e, .map⟩ => k b g o c seen e (some p)
  | _ => False)
 | _ => False
/-- The next entry, whichever: one that has not come yet. -/
def vnextMap (P : Program) (mem : List Blk) (it : V) (k : V -> List Blk -> Prop) : Prop :=
 iterAt mem it fun b g o c seen e _ =>
  match stampedAt mem 0 with
  | some b2 =>
   (match mem[b2]? with
   | some ⟨.map ((.ptr g' _, .fn c' bs) :: l), e2, .map⟩ =>
    (match P.underlying e2 with
    | some (.map kt et) =>
     (match keyT P kt, valKS P et with
     | some ks, some q =>
      At (g' = g /\ c' = c /\ keysFit ks l = true /\ valsKS q l = true) /\
       (allKey ks fun kv => allVal q fun vv => ∀ i : Nat, i < l.length /\ l[i]? = some (kv, vv) /\ ¬ bs.getD i 0 ∈ seen -> k (.tup [.lit true, kv, vv]) (mem.set b ⟨.map [(.gp g o, .fn c (seen ++ [bs.getD i 0])), (kv, vv)], e, .map⟩)) /\
       ((∀ i : Nat, i < l.length -> bs.getD i 0 ∈ seen) -> k (.tup [.lit false]) (mem.set b2 ⟨.map l, e2, .map⟩))
     | _, _ => False)
    | _ => False)
   | _ => False)
  | none => False
/-- The entry that came last. -/
def ventry (mem : List Blk) (it : V) (k : V -> List Blk -> Prop) : Prop :=
 iterAt mem it fun b g o c seen e p =>
  match p, stampedAt mem 0 with
  | some (kv, vv), some b2 =>
   (match mem[b2]? with
   | some ⟨.map ((.ptr g' _, .fn c' bs) :: l), _, .map⟩ =>
    At (g' = g /\ c' = c /\ ∃ i, i < l.length /\ l[i]? = some (kv, vv) /\ seen.getLast? = some (bs.getD i 0)) /\ k (.tup [kv, vv]) (mem.set b ⟨.map [(.gp g o, .fn c seen)], e, .map⟩)
   | _ => False)
  | _, _ => False

section
variable {P : Program} {ρ ρ' : List Place}
theorem plainFits_eq {l : List KS} {k : IntKind} (h : plainFits l k = true) : l = [.plain, .int k] := by
 unfold plainFits at h
 split at h
 ·rw [of_decide_eq_true h]
 ·cases h
theorem fits_plain {l : List V} {k : IntKind} : fitsL [.plain, .int k] l = false := by
 cases l <;> simp [fitsL, KS.fits]
theorem ksFields_plain : ∀ {fs : List Field} {i : Nat} {k : IntKind}, ksFields P fs i ≠ some [.plain, .int k]
 | [], _, _, h => by simp [ksFields] at h
 | f :: fs, i, k, h => by
  unfold ksFields at h
  split at h
  ·rename_i s r _ _ hs _
   injection h with h
   injection h with h _
   subst h
   unfold ksOf at hs
   split at hs <;> cases hs
  ·cases h
theorem fits_struct {fs : List Field} {l : List KS} {i : Nat} (h : ksFields P fs i = some l) {x : V} (hx : keyFits l x = true) : ∃ cs, x = .agg cs /\ fitsL l cs = true := by
 cases x <;> simp only [keyFits, Bool.false_eq_true] at hx
 ·rw [plainFits_eq hx] at h
  exact (ksFields_plain h).elim
 ·exact ⟨_, rfl, hx⟩
theorem fits_int {k : IntKind} {x : V} (hx : keyFits [.plain, .int k] x = true) : ∃ n, x = .int k n := by
 cases x <;> simp only [keyFits, Bool.false_eq_true] at hx
 ·have := plainFits_eq hx
  injection this with _ h
  injection h with h _
  injection h with h
  subst h
  exact ⟨_, rfl⟩
 ·rw [fits_plain] at hx
  cases hx
theorem ksOf_agg {t : TypeId} {s : KS} (h : ksOf P t = some s) : aggT P t = some false := by
 unfold ksOf at h
 unfold aggT
 split at h
 ·rename_i e; rw [e]
 ·rename_i e; rw [e]
 ·cases h
theorem ks_eq {t : TypeId} {s : KS} (h : ksOf P t = some s) {x y : V} (hx : s.fits x = true) (hy : s.fits y = true) : eqCell P t x y = some (sameC x y) := by
 unfold ksOf at h
 split at h
 ·rename_i k e
  injection h with h
  subst h
  cases x <;> simp only [KS.fits, Bool.false_eq_true, decide_eq_true_eq] at hx
  cases y <;> simp only [KS.fits, Bool.false_eq_true, decide_eq_true_eq] at hy
  subst hx; subst hy
  simp [eqCell, e, sameC]
 ·rename_i e
  injection h with h
  subst h
  cases x <;> simp only [KS.fits, Bool.false_eq_true] at hx
  cases y <;> simp only [KS.fits, Bool.false_eq_true] at hy
  simp [eqCell, e, sameC]
 ·cases h
theorem fields_eq : ∀ (fs : List Field) (i : Nat) {l : List KS} {cs ds : List V} {pc pd : List V}, ksFields P fs i = some l -> pc.length = i -> pd.length = i -> fitsL l cs = true -> fitsL l ds = true ->
  eqFieldsV P (pc ++ cs) (pd ++ ds) fs = some (sameCs cs ds)
 | [], i, l, cs, ds, pc, pd, h, _, _, hc, hd => by
  simp only [ksFields, Option.some.injEq] at h
  subst h
  cases cs <;> simp only [fitsL, Bool.false_eq_true] at hc
  cases ds <;> simp only [fitsL, Bool.false_eq_true] at hd
  rfl
 | f :: fs, i, l, cs, ds, pc, pd, h, h1, h2, hc, hd => by
  unfold ksFields at h
  split at h
  ·rename_i s r hn ho hs hr
   injection h with h
   subst h
   have ho := Nat.eq_of_beq_eq_true ho
   cases cs with
   | nil => simp [fitsL] at hc
   | cons c cs =>
    cases ds with
    | nil => simp [fitsL] at hd
    | cons d ds =>
     simp only [fitsL, Bool.and_eq_true] at hc hd
     have ih := fields_eq fs (i + 1) (pc := pc ++ [c]) (pd := pd ++ [d]) hr (by simp [h1]) (by simp [h2]) hc.2 hd.2
     simp only [List.append_assoc, List.singleton_append] at ih
     have e1 : (pc ++ c :: cs)[f.offset]? = some c := by rw [ho, <- h1]; simp
     have e2 : (pd ++ d :: ds)[f.offset]? = some d := by rw [ho, <- h2]; simp
     unfold eqFieldsV
     simp only [hn, ksOf_agg hs, e1, e2, ks_eq hs hc.1 hd.1, ih, sameCs]
  ·cases h
theorem run_key_eq {t : TypeId} {l : List KS} (ht : keyT P t = some l) {x y : V} (hx : keyFits l x = true) (hy : keyFits l y = true) {a b : Value} (ha : Rep ρ x a) (hb : Rep ρ' y b) (w : World) : (Op.equal t a b).run P w = .ok (sameK x y) w := by
 unfold keyT at ht
 split at ht
 ·rename_i fs hu
  split at ht
  ·rename_i hst
   obtain ⟨cs, rfl, hx⟩ := fits_struct ht hx
   obtain ⟨ds, rfl, hy⟩ := fits_struct ht hy
   have ha' : Rep (ρ ++ ρ') (.agg cs) a := ha.mono (List.prefix_append _ _)
   simp only [Rep] at ha hb
   obtain ⟨xs, rfl, hxs⟩ := ha
   obtain ⟨ys, rfl, hys⟩ := hb
   have hcl : ∀ {ss : List KS} {vs : List V}, fitsL ss vs = true -> underL 0 vs = true := by
    intro ss
    induction ss with
    | nil => intro vs h; cases vs <;> simp [fitsL, underL] at h ⊢
    | cons s ss ih =>
     intro vs h
     cases vs with
     | nil => simp [fitsL] at h
     | cons v vs =>
      simp only [fitsL, Bool.and_eq_true] at h
      simp only [underL, Bool.and_eq_true]
      refine ⟨?_, ih h.2⟩
      cases s <;> cases v <;> simp [KS.fits, V.under] at h ⊢
   have hys' : RepL ρ ds ys := hys.closed (hcl hy)
   have hfe := fieldsOf_eq hu
   unfold Op.equal
   show (Op.equalIn (9999 + 1) t _ _).run P w = _
   rw [run_equalIn_struct w 9999 t _ _ (by rw [hfe]; exact hu) hst, hfe]
   exact eqFieldsV_sound hxs hys' 9998 w _ (fields_eq fs.toList 0 (pc := []) (pd := []) ht rfl rfl hx hy)
  ·cases ht
 ·rename_i k hu
  injection ht with ht
  subst ht
  obtain ⟨n, rfl⟩ := fits_int hx
  obtain ⟨m, rfl⟩ := fits_int hy
  simp only [Rep] at ha hb
  subst ha; subst hb
  show (Op.equalIn (9999 + 1) t _ _).run P w = _
  unfold Op.equalIn
  simp only [Sem.run_bind, run_underlying hu, Result.andThen_ok, if_true, Sem.run_pure, sameK]
 ·cases ht
theorem run_asking {t : TypeId} {ks : List KS} (ht : keyT P t = some ks) {k : V} {a : Value} (hk : keyFits ks k = true) (ha : Rep ρ k a) (w : World) : ∀ (l : List (V × V)) (es : List MapEntry) (n i : Nat), EntRel l es n -> keysFit ks l = true ->
  ∃ r, (Instr.findAsking t a es i).run P w = .ok r w /\ (match findK k l i with | none => r = none | some (j, v) => ∃ x, r = some (j, x) /\ Rep [] v x)
 | [], [], _, i, _, _ => ⟨none, rfl, rfl⟩
 | (x, v) :: l, e :: es, n, i, h, hf => by
  simp only [EntRel] at h
  obtain ⟨h1, h2, _, _, h5⟩ := h
  simp only [keysFit, List.all_cons, Bool.and_eq_true] at hf
  have he := run_key_eq ht hk hf.1 ha h1 w
  simp only [Instr.findAsking, Sem.run_bind, he, Result.andThen_ok, findK]
  cases hs : sameK k x with
  | true => exact ⟨some (i, e.val), rfl, e.val, rfl, h2⟩
  | false => exact run_asking ht hk ha w l es n (i + 1) h5 hf.2
 | [], _ :: _, _, _, h, _ => by simp [EntRel] at h
 | _ :: _, [], _, _, h, _ => by simp [EntRel] at h
theorem run_find {t : TypeId} {ks : List KS} (ht : keyT P t = some ks) {k : V} {a : Value} (hk : keyFits ks k = true) (ha : Rep ρ k a) (w : World) (l : List (V × V)) (es : List MapEntry) (n : Nat) (h : EntRel l es n) (hf : keysFit ks l = true) :
  ∃ r, (Instr.findKey t a es).run P w = .ok r w /\ (match findK k l 0 with | none => r = none | some (j, v) => ∃ x, r = some (j, x) /\ Rep [] v x) := by
 have hu : (∃ fs, P.underlying t = some (.struct fs)) \/ ∃ kd, P.underlying t = some (.int kd) /\ ks = [.plain, .int kd] := by
  unfold keyT at ht
  split at ht
  ·exact .inl ⟨_, by assumption⟩
  ·rename_i kd hkd
   injection ht with ht
   exact .inr ⟨kd, hkd, ht.symm⟩
  ·cases ht
 rcases hu with ⟨fs, hu⟩ | ⟨kd, hu, rfl⟩
 case inr =>
  obtain ⟨m, rfl⟩ := fits_int hk
  simp only [Rep] at ha
  subst ha
  have key : ∀ (l : List (V × V)) (es : List MapEntry) (n i : Nat), EntRel l es n -> keysFit [.plain, .int kd] l = true ->
    ∃ r, Instr.findNow (.int kd) (.int kd m) es i = some r /\ (match findK (.int kd m) l i with | none => r = none | some (j, v) => ∃ x, r = some (j, x) /\ Rep [] v x) := by
   intro l
   induction l with
   | nil =>
    intro es n i h _
    cases es with
    | nil => exact ⟨none, rfl, rfl⟩
    | cons e es => simp [EntRel] at h
   | cons p l ih =>
    obtain ⟨x, v⟩ := p
    intro es n i h hf
    cases es with
    | nil => simp [EntRel] at h
    | cons e es =>
     simp only [EntRel] at h
     obtain ⟨h1, h2, _, _, h5⟩ := h
     simp only [keysFit, List.all_cons, Bool.and_eq_true] at hf
     obtain ⟨y, rfl⟩ := fits_int hf.1
     simp only [Rep] at h1
     simp only [Instr.findNow, h1, Instr.sameNow, if_true, findK, sameK]
     cases hs : m == y with
     | true => exact ⟨_, rfl, _, rfl, h2⟩
     | false => exact ih es n (i + 1) h5 hf.2
  obtain ⟨r, h1, h2⟩ := key l es n 0 h hf
  refine ⟨r, ?_, h2⟩
  unfold Instr.findKey
  simp only [Sem.run_bind, run_underlying hu, Result.andThen_ok, h1, Sem.run_pure]
 unfold Instr.findKey
 simp only [Sem.run_bind, run_underlying hu, Result.andThen_ok]
 cases es with
 | nil =>
  cases l with
  | nil => exact ⟨none, rfl, rfl⟩
  | cons p l => obtain ⟨x, v⟩ := p; simp [EntRel] at h
 | cons e es =>
  have hnow : Instr.findNow (.struct fs) a (e :: es) 0 = none := by
   simp [Instr.findNow, Instr.sameNow]
  rw [hnow]
  exact run_asking ht hk ha w l (e :: es) n 0 h hf
theorem part_ks {t : TypeId} {s : KS} (h : ksOf P t = some s) {cs : List V} {xs : List Value} {off : Nat} {v : V} (hx : RepL ρ cs xs) (hv : cs[off]? = some v) (w : World) : ∃ y, (part t xs.toArray off).run P w = .ok y w /\ Rep ρ v y :=
 part_cell (ksOf_agg h) hx hv w
theorem check_ks {t : TypeId} {s : KS} (h : ksOf P t = some s) (em : Bool) (n : Nat) (v : Value) (w : World) : (Instr.checkKey em (n + 1) t v).run P w = .ok () w := by
 unfold ksOf at h
 unfold Instr.checkKey
 split at h
 ·rename_i e; simp [run_underlying e]
 ·rename_i e; simp [run_underlying e]
 ·cases h
theorem run_check {t : TypeId} {ks : List KS} (ht : keyT P t = some ks) {k : V} {a : Value} (hk : keyFits ks k = true) (ha : Rep ρ k a) (em : Bool) (w : World) : (Instr.checkKey em 10000 t a).run P w = .ok () w := by
 unfold keyT at ht
 split at ht
 ·rename_i fs hu
  split at ht
  ·obtain ⟨cs, rfl, hk⟩ := fits_struct ht hk
   simp only [Rep] at ha
   obtain ⟨xs, rfl, hxs⟩ := ha
   show (Instr.checkKey em (9999 + 1) t _).run P w = _
   unfold Instr.checkKey
   simp only [Sem.run_bind, run_underlying hu, Result.andThen_ok]
   rw [<- Array.forIn_toList]
   have key : ∀ (L : List Field) (i : Nat) (l : List KS) (pc ds : List V), ksFields P L i = some l -> pc.length = i -> cs = pc ++ ds -> fitsL l ds = true ->
     (forIn (m := Sem) L PUnit.unit fun f _ => (if f.name ≠ "_" then (do Instr.checkKey em 9999 f.type (<- part f.type xs.toArray f.offset); pure (ForInStep.yield PUnit.unit)) else pure (ForInStep.yield PUnit.unit))).run P w = .ok PUnit.unit w := by
    intro L
    induction L with
    | nil => intro i l pc ds _ _ _ _; rfl
    | cons f L ih =>
     intro i l pc ds h h1 h2 h3
     unfold ksFields at h
     split at h
     ·rename_i s r hn ho hs hr
      injection h with h
      subst h
      have ho := Nat.eq_of_beq_eq_true ho
      cases ds with
      | nil => simp [fitsL] at h3
      | cons d ds =>
       simp only [fitsL, Bool.and_eq_true] at h3
       obtain ⟨y, hy, _⟩ := part_ks hs hxs (v := d) (off := f.offset) (by rw [h2, ho, <- h1]; simp) w
       have hname : f.name ≠ "_" := by simpa using hn
       simp only [List.forIn_cons, Sem.run_bind, hname, ne_eq, not_false_eq_true, if_true, Result.andThen_ok, hy, check_ks hs, Sem.run_pure]
       exact ih (i + 1) r (pc ++ [d]) ds hr (by simp [h1]) (by simp [h2]) h3.2
     ·cases h
   rw [key fs.toList 0 ks [] cs ht rfl rfl hk]
   rfl
  ·cases ht
 ·rename_i kd hu
  injection ht with ht
  subst ht
  obtain ⟨m, rfl⟩ := fits_int hk
  simp only [Rep] at ha
  subst ha
  show (Instr.checkKey em (9999 + 1) t _).run P w = _
  unfold Instr.checkKey
  simp only [Sem.run_bind, run_underlying hu, Result.andThen_ok, Sem.run_pure]
 ·cases ht
theorem MRel.mapAt {m : List Blk} {w : World} (h : MRel ρ m w) {b : Nat} {l : List (V × V)} {e : TypeId} (hm : m[b]? = some ⟨.map l, e, .map⟩) {p : Place} (hp : ρ[b]? = some p) :
  p.ghost = false /\ p.off = 0 /\ ∃ (o : Obj), w.heap[p.blk]? = some o /\ MapIs l p.blk o := by
 rcases h.blks b _ p hm hp with h | ⟨_, h, _⟩ | ⟨_, _, _, _, h, _⟩ | ⟨_, h, _⟩ | ⟨h1, _, h2, l', o, hl, hc, hr⟩ | ⟨h, _⟩
 ·cases h
 ·cases h
 ·exact h.elim
 ·cases h.1
 ·simp only [Cells.map.injEq] at hl
  subst hl
  exact ⟨h1, h2, o, hc, hr⟩
 ·cases h
theorem fit_plain {ks : List KS} {l : List (V × V)} (hf : keysFit ks l = true) : specOf l = .plain := by
 unfold specOf
 split
 ·simp [keysFit, keyFits] at hf
 ·simp [keysFit, keyFits] at hf
 ·simp [keysFit, keyFits] at hf
 ·simp [keysFit, keyFits] at hf
 ·rfl
theorem plainB_spec {l : List (V × V)} (h : plainB l = true) : specOf l = .plain := by
 unfold plainB at h
 split at h
 ·assumption
 ·cases h
theorem put_fit {ks : List KS} {l : List (V × V)} {i x : V} (hf : keysFit ks l = true) (hi : keyFits ks i = true) : keysFit ks (putK i x l) = true := by
 induction l with
 | nil => simp [putK, keysFit, hi]
 | cons q l ih =>
  obtain ⟨y, u⟩ := q
  simp only [keysFit, List.all_cons, Bool.and_eq_true] at hf ih ⊢
  unfold putK
  split
  ·simp only [List.all_cons, Bool.and_eq_true]; exact ⟨hi, hf.2⟩
  ·simp only [List.all_cons, Bool.and_eq_true]; exact ⟨hf.1, ih hf.2⟩
theorem put_plain {ks : List KS} {l : List (V × V)} {i x : V} (hf : keysFit ks l = true) (hi : keyFits ks i = true) : specOf (putK i x l) = .plain := fit_plain (put_fit hf hi)
theorem mapIs_plain {l : List (V × V)} (h : specOf l = .plain) {a : Nat} {o : Obj} : MapIs l a o ↔ ∃ (es : Array MapEntry) (clock : Nat), o = .map es clock /\ EntRel l es.toList clock := by
 unfold MapIs
 rw [h]
theorem findK_mem {k : V} : ∀ {l : List (V × V)} {i j : Nat} {v : V}, findK k l i = some (j, v) -> ∃ x, (x, v) ∈ l
 | [], _, _, _, h => by simp [findK] at h
 | (x, u) :: l, i, j, v, h => by
  unfold findK at h
  split at h
  ·injection h with h; injection h with _ h; subst h; exact ⟨x, by simp⟩
  ·obtain ⟨y, hy⟩ := findK_mem h; exact ⟨y, by simp [hy]⟩
theorem vmapGet_sound {t : TypeId} {mem : List Blk} {m i : V} {k : V -> Prop} (h : vmapGet P t mem m i k) {mv iv : Value} (hm : Rep ρ m mv) (hi : Rep ρ i iv) :
  ∃ v, k v /\ ∀ w, MRel ρ mem w -> ∃ x, (Instr.lookup t mv iv false).run P w = .ok x w /\ Rep ρ v x := by
 unfold vmapGet at h
 replace h := V.known_spec h
 split at h
 ·rename_i b kt et hu
  split at h
  ·rename_i l e ks inf hb hks hinf
   split at h
   ·rename_i kd hfit hz
    obtain ⟨⟨hf, hv⟩, h⟩ := h
    refine ⟨_, h, fun w hw => ?_⟩
    simp only [Rep] at hm
    obtain ⟨p, hp, rfl⟩ := hm
    obtain ⟨_, _, _, hheap, hme⟩ := hw.mapAt hb hp
    obtain ⟨es, n, rfl, hent⟩ := (mapIs_plain (fit_plain hf)).1 hme
    obtain ⟨r, hr, hrm⟩ := run_find hks hfit hi w l es.toList n hent hf
    have hzero : (zeroValue et).run P w = .ok (.int kd 0) w := by
     simp [zeroValue, run_info hinf, hz]
    have hchk := run_check hks hfit hi es.isEmpty w
    have hget : (getObj p.blk).run P w = .ok (.map es n) w := by simp [getObj, Sem.run, hheap]
    unfold lookI
    cases hfk : findK i l 0 with
    | none =>
     rw [hfk] at hrm
     simp only at hrm
     subst hrm
     refine ⟨.int kd 0, ?_, by simp [Rep]⟩
     simp only [Instr.lookup, Sem.run_bind, run_underlying hu, Result.andThen_ok, hget, Sem.run_pure, hchk, hr, hzero, Bool.false_eq_true, if_false]
    | some q =>
     obtain ⟨j, v⟩ := q
     rw [hfk] at hrm
     obtain ⟨x, rfl, hx⟩ := hrm
     obtain ⟨y, hy⟩ := findK_mem hfk
     have hvk := List.all_eq_true.1 hv (y, v) hy
     simp only at hvk
     split at hvk
     ·rename_i k' n'
      have hk' := of_decide_eq_true hvk
      subst hk'
      simp only [Rep] at hx
      subst hx
      refine ⟨.int k' n', ?_, by simp [Rep]⟩
      simp only [Instr.lookup, Sem.run_bind, run_underlying hu, Result.andThen_ok, hget, Sem.run_pure, hchk, hr, Bool.false_eq_true, if_false]
     ·cases hvk
   ·rename_i hfit hz
    obtain ⟨⟨hf, hv⟩, h⟩ := h
    refine ⟨_, h, fun w hw => ?_⟩
    simp only [Rep] at hm
    obtain ⟨p, hp, rfl⟩ := hm
    obtain ⟨_, _, _, hheap, hme⟩ := hw.mapAt hb hp
    obtain ⟨es, n, rfl, hent⟩ := (mapIs_plain (fit_plain hf)).1 hme
    obtain ⟨r, hr, hrm⟩ := run_find hks hfit hi w l es.toList n hent hf
    have hzero : (zeroValue et).run P w = .ok (.bool false) w := by
     simp [zeroValue, run_info hinf, hz]
    have hchk := run_check hks hfit hi es.isEmpty w
    have hget : (getObj p.blk).run P w = .ok (.map es n) w := by simp [getObj, Sem.run, hheap]
    unfold lookTF
    cases hfk : findK i l 0 with
    | none =>
     rw [hfk] at hrm
     simp only at hrm
     subst hrm
     refine ⟨.bool false, ?_, by simp [Rep]⟩
     simp only [Instr.lookup, Sem.run_bind, run_underlying hu, Result.andThen_ok, hget, Sem.run_pure, hchk, hr, hzero, Bool.false_eq_true, if_false]
    | some q =>
     obtain ⟨j, v⟩ := q
     rw [hfk] at hrm
     obtain ⟨x, rfl, hx⟩ := hrm
     obtain ⟨y, hy⟩ := findK_mem hfk
     have hvk := List.all_eq_true.1 hv (y, v) hy
     simp only at hvk
     split at hvk
     ·rename_i b'
      simp only [Rep] at hx
      subst hx
      refine ⟨.bool b', ?_, by simp [Rep]⟩
      simp only [Instr.lookup, Sem.run_bind, run_underlying hu, Result.andThen_ok, hget, Sem.run_pure, hchk, hr, Bool.false_eq_true, if_false]
     ·cases hvk
   ·exact h.elim
  ·exact h.elim
 ·exact h.elim
theorem ent_len : ∀ {l : List (V × V)} {es : List MapEntry} {n : Nat}, EntRel l es n -> l.length = es.length
 | [], [], _, _ => rfl
 | (_, _) :: l, e :: es, n, h => by
  simp only [EntRel] at h
  simp [ent_len h.2.2.2.2]
 | [], _ :: _, _, h => by simp [EntRel] at h
 | _ :: _, [], _, h => by simp [EntRel] at h
theorem ent_born : ∀ {l : List (V × V)} {es : List MapEntry} {n : Nat}, EntRel l es n -> ∀ x ∈ es, x.born < n
 | [], [], _, _, x, hx => by cases hx
 | (_, _) :: l, e :: es, n, h, x, hx => by
  simp only [EntRel] at h
  rcases List.mem_cons.1 hx with rfl | hx
  ·exact h.2.2.1
  ·exact ent_born h.2.2.2.2 x hx
 | [], _ :: _, _, h, _, _ => by simp [EntRel] at h
 | _ :: _, [], _, h, _, _ => by simp [EntRel] at h
theorem findK_le {k : V} : ∀ {l : List (V × V)} {i j : Nat} {v : V}, findK k l i = some (j, v) -> i <= j
 | [], _, _, _, h => by simp [findK] at h
 | (x, u) :: l, i, j, v, h => by
  unfold findK at h
  split at h
  ·injection h with h; injection h with h _; omega
  ·have := findK_le h; omega
theorem sameC_eq {s : KS} {x y : V} (hx : s.fits x = true) (hy : s.fits y = true) (h : sameC x y = true) : x = y := by
 cases s <;> cases x <;> cases y <;> simp [KS.fits, sameC] at hx hy h ⊢
 ·exact ⟨hx ▸ hy, h⟩
 ·exact h
theorem sameCs_eq : ∀ {ss : List KS} {xs ys : List V}, fitsL ss xs = true -> fitsL ss ys = true -> sameCs xs ys = true -> xs = ys
 | [], [], [], _, _, _ => rfl
 | s :: ss, x :: xs, y :: ys, hx, hy, h => by
  simp only [fitsL, sameCs, Bool.and_eq_true] at hx hy h
  rw [sameC_eq hx.1 hy.1 h.1, sameCs_eq hx.2 hy.2 h.2]
 | [], _ :: _, _, hx, _, _ => by simp [fitsL] at hx
 | [], [], _ :: _, _, hy, _ => by simp [fitsL] at hy
 | _ :: _, [], _, hx, _, _ => by simp [fitsL] at hx
 | _ :: _, _ :: _, [], _, hy, _ => by simp [fitsL] at hy
theorem sameK_eq {ss : List KS} {x y : V} (hx : keyFits ss x = true) (hy : keyFits ss y = true) (h : sameK x y = true) : x = y := by
 cases x <;> simp only [keyFits, Bool.false_eq_true] at hx <;> cases y <;> simp only [keyFits, Bool.false_eq_true] at hy
 ·have e := plainFits_eq hx
  rw [plainFits_eq hy] at e
  injection e with _ e
  injection e with e _
  injection e with e
  rw [e, eq_of_beq h]
 ·cases h
 ·cases h
 ·rw [sameCs_eq hx hy h]
theorem ba_self (s : ByteArray) : (s == s) = true := by
 cases s with
 | mk d => first | exact beq_self_eq_true d | (show decide _ = true; exact decide_eq_true rfl) | (show (d == d) = true; exact beq_self_eq_true d)
theorem fits_det : ∀ {ss : List KS} {vs : List V} {xs ys : List Value}, fitsL ss vs = true -> RepL ρ vs xs -> RepL ρ' vs ys -> xs = ys /\ (xs.toArray.toList.zip xs.toArray.toList).all (fun (x, y) => Instr.sameBits 9999 x y) = true
 | [], [], xs, ys, _, hx, hy => by
  simp only [RepL] at hx hy
  subst hx; subst hy
  exact ⟨rfl, rfl⟩
 | s :: ss, v :: vs, xs, ys, h, hx, hy => by
  simp only [fitsL, Bool.and_eq_true] at h
  simp only [RepL] at hx hy
  obtain ⟨x, r, rfl, hx1, hx2⟩ := hx
  obtain ⟨y, q, rfl, hy1, hy2⟩ := hy
  obtain ⟨e1, e2⟩ := fits_det h.2 hx2 hy2
  have hc : x = y /\ Instr.sameBits 9999 x x = true := by
   cases s <;> cases v <;> simp only [KS.fits, Bool.false_eq_true, false_and] at h
   ·simp only [Rep] at hx1 hy1
    subst hx1; subst hy1
    exact ⟨rfl, by simp [Instr.sameBits]⟩
   ·simp only [Rep] at hx1 hy1
    subst hx1; subst hy1
    exact ⟨rfl, by simp only [Instr.sameBits]; exact ba_self _⟩
  refine ⟨by rw [hc.1, e1], ?_⟩
  simp only [List.zip_cons_cons, List.all_cons, Bool.and_eq_true]
  exact ⟨hc.2, e2⟩
 | [], _ :: _, _, _, h, _, _ => by simp [fitsL] at h
 | _ :: _, [], _, _, h, _, _ => by simp [fitsL] at h
theorem key_det {ss : List KS} {k : V} (hk : keyFits ss k = true) {a b : Value} (ha : Rep ρ k a) (hb : Rep ρ' k b) : a = b /\ Instr.sameBits 10000 a a = true := by
 cases k <;> simp only [keyFits, Bool.false_eq_true] at hk
 ·simp only [Rep] at ha hb
  subst ha; subst hb
  exact ⟨rfl, by simp [Instr.sameBits]⟩
 simp only [Rep] at ha hb
 obtain ⟨xs, rfl, hx⟩ := ha
 obtain ⟨ys, rfl, hy⟩ := hb
 obtain ⟨e1, e2⟩ := fits_det hk hx hy
 refine ⟨by rw [e1], ?_⟩
 show Instr.sameBits (9999 + 1) _ _ = true
 simp only [Instr.sameBits, beq_self_eq_true, Bool.true_and]
 exact e2
theorem put_none {k v : V} {a x : Value} (ha : Rep [] k a) (hx : Rep [] v x) : ∀ {l : List (V × V)} {es : List MapEntry} {n i : Nat}, EntRel l es n -> findK k l i = none -> EntRel (putK k v l) (es ++ [⟨a, x, n⟩]) (n + 1)
 | [], [], n, _, _, _ => by
  simp only [putK, List.nil_append, EntRel]
  exact ⟨ha, hx, Nat.lt_succ_self n, (fun _ h => (List.not_mem_nil h).elim), trivial⟩
 | (y, u) :: l, e :: es, n, i, h, hf => by
  unfold findK at hf
  split at hf
  ·cases hf
  ·rename_i hs
   simp only [EntRel] at h
   simp only [putK, hs, List.cons_append, EntRel]
   refine ⟨h.1, h.2.1, Nat.lt_succ_of_lt h.2.2.1, fun z hz => ?_, put_none ha hx h.2.2.2.2 hf⟩
   rcases List.mem_append.1 hz with hz | hz
   ·exact h.2.2.2.1 z hz
   ·simp at hz; subst hz; exact h.2.2.1
 | [], _ :: _, _, _, h, _ => by simp [EntRel] at h
 | _ :: _, [], _, _, h, _ => by simp [EntRel] at h
theorem put_some {ks : List KS} {k v : V} {a x : Value} (hk : keyFits ks k = true) (ha : Rep [] k a) (hx : Rep [] v x) : ∀ {l : List (V × V)} {es : List MapEntry} {n i j : Nat} {u : V}, EntRel l es n -> keysFit ks l = true -> findK k l i = some (j, u) ->
  ∃ e, es[j - i]? = some e /\ e.key = a /\ EntRel (putK k v l) (es.modify (j - i) fun e => { e with key := a, val := x }) n
 | (y, u) :: l, e :: es, n, i, j, u', h, hf, hs => by
  simp only [keysFit, List.all_cons, Bool.and_eq_true] at hf
  unfold findK at hs
  split at hs
  ·rename_i hsame
   injection hs with hs; injection hs with hs _
   subst hs
   simp only [EntRel] at h
   have hky := sameK_eq hk hf.1 hsame
   subst hky
   refine ⟨e, by simp, (key_det hk h.1 ha).1, ?_⟩
   simp only [Nat.sub_self, List.modify_zero_cons, putK, hsame, EntRel]
   exact ⟨ha, hx, h.2.2.1, h.2.2.2.1, h.2.2.2.2⟩
  ·rename_i hsame
   have hle := findK_le hs
   simp only [EntRel] at h
   obtain ⟨e', h1, h2, h3⟩ := put_some hk ha hx h.2.2.2.2 hf.2 hs
   have ej : j - i = j - (i + 1) + 1 := by omega
   refine ⟨e', by rw [ej]; simpa using h1, h2, ?_⟩
   rw [ej]
   simp only [List.modify_succ_cons, putK, hsame, EntRel]
   refine ⟨h.1, h.2.1, h.2.2.1, fun z hz => ?_, h3⟩
   obtain ⟨q, hq⟩ := List.mem_iff_getElem?.1 hz
   rw [List.getElem?_modify] at hq
   cases hes : es[q]? with
   | none => rw [hes] at hq; cases hq
   | some w =>
    rw [hes] at hq
    have hw := h.2.2.2.1 w (List.mem_of_getElem? hes)
    injection hq with hq
    rw [<- hq]
    split <;> exact hw
 | [], _, _, _, _, _, _, _, hs => by simp [findK] at hs
 | _ :: _, [], _, _, _, _, h, _, _ => by simp [EntRel] at h
theorem fits_under : ∀ {ss : List KS} {vs : List V}, fitsL ss vs = true -> underL 0 vs = true
 | [], [], _ => rfl
 | s :: ss, v :: vs, h => by
  simp only [fitsL, Bool.and_eq_true] at h
  simp only [underL, Bool.and_eq_true]
  refine ⟨?_, fits_under h.2⟩
  cases s <;> cases v <;> simp [KS.fits, V.under] at h ⊢
 | [], _ :: _, h => by simp [fitsL] at h
 | _ :: _, [], h => by simp [fitsL] at h
theorem key_closed {ks : List KS} {k : V} (hk : keyFits ks k = true) : k.under 0 = true := by
 cases k <;> simp only [keyFits, Bool.false_eq_true] at hk
 ·rfl
 ·simp only [V.under]
  exact fits_under hk
theorem run_put {t kt et : TypeId} {ks : List KS} (hu : P.underlying t = some (.map kt et)) (hks : keyT P kt = some ks) {i x : V} {iv xv : Value} (hfit : keyFits ks i = true) (hi : Rep ρ i iv) (hx : Rep [] x xv) {w : World} {r n : Nat} {es : Array MapEntry} {l : List (V × V)}
  (hheap : w.heap[r]? = some (.map es n)) (hent : EntRel l es.toList n) (hf : keysFit ks l = true) :
  ∃ (es' : Array MapEntry) (n' : Nat), (Instr.mapUpdate t (.map (some r)) iv xv).run P w = .ok () { w with heap := w.heap.setIfInBounds r (.map es' n') } /\ EntRel (putK i x l) es'.toList n' := by
 have hi0 : Rep [] i iv := hi.closed (key_closed hfit)
 obtain ⟨q, hr, hrm⟩ := run_find hks hfit hi w l es.toList n hent hf
 have hchk := run_check hks hfit hi false w
 have hget : (getObj r).run P w = .ok (.map es n) w := by simp [getObj, Sem.run, hheap]
 have hset : ∀ o', (setObj r o').run P w = .ok () { w with heap := w.heap.setIfInBounds r o' } := fun o' => by simp [setObj, Sem.run, hheap]
 cases hfk : findK i l 0 with
 | none =>
  rw [hfk] at hrm
  simp only at hrm
  subst hrm
  refine ⟨es.push ⟨iv, xv, n⟩, n + 1, ?_, by rw [Array.toList_push]; exact put_none hi0 hx hent hfk⟩
  simp only [Instr.mapUpdate, Sem.run_bind, run_underlying hu, Result.andThen_ok, hget, hchk, hr, hset]
 | some z =>
  obtain ⟨j, v⟩ := z
  rw [hfk] at hrm
  obtain ⟨y, rfl, hy⟩ := hrm
  obtain ⟨e, h1, h2, h3⟩ := put_some hfit hi0 hx hent hf hfk
  rw [Nat.sub_zero] at h1 h3
  have hstay : (Instr.keyThatStays (((es[j]?).map (·.key)).getD iv) iv).run P w = .ok iv w := by
   have : es[j]? = some e := by simpa using h1
   rw [this]
   simp only [Option.map_some, Option.getD_some, h2, Instr.keyThatStays, (key_det hfit hi0 hi0).2, if_true, Sem.run_pure]
  refine ⟨es.modify j fun e => { e with key := iv, val := xv }, n, ?_, by rw [Array.toList_modify]; exact h3⟩
  simp only [Instr.mapUpdate, Sem.run_bind, run_underlying hu, Result.andThen_ok, hget, hchk, hr, hstay, hset]
theorem MRel.setMap {m : List Blk} {w : World} (h : MRel ρ m w) {b : Nat} {l l' : List (V × V)} {e : TypeId} {p : Place} (hm : m[b]? = some ⟨.map l, e, .map⟩) (hp : ρ[b]? = some p) {o' : Obj} (hent : MapIs l' p.blk o') :
  MRel ρ (m.set b ⟨.map l', e, .map⟩) { w with heap := w.heap.setIfInBounds p.blk o' } := by
 obtain ⟨hg, hoff, o, hheap, _⟩ := h.mapAt hm hp
 have hlt : p.blk < w.heap.size := (Array.getElem?_eq_some_iff.1 hheap).1
 have hbl : b < m.length := (List.getElem?_eq_some_iff.1 hm).1
 have old : ∀ {c : Nat} {blk : Blk}, (m.set b ⟨.map l', e, .map⟩)[c]? = some blk -> ∃ blk0, m[c]? = some blk0 /\ (blk.cs.isDead = false -> blk0.cs.isDead = false) /\ (c ≠ b -> blk0 = blk) /\ (c = b -> blk = ⟨.map l', e, .map⟩) /\ blk.kind = blk0.kind := by
  intro c blk hc
  rw [List.getElem?_set] at hc
  by_cases hbc : b = c
  ·subst hbc
   simp [hbl] at hc
   exact ⟨_, hm, fun _ => rfl, fun h => absurd rfl h, fun _ => hc.symm, by rw [<- hc]⟩
  ·simp only [hbc, if_false] at hc
   exact ⟨blk, hc, fun h => h, fun _ => rfl, fun h => absurd h.symm hbc, rfl⟩
 refine ⟨by simp [h.len], fun c blk q hc hq => ?_, fun c c' blk blk' q q' hc hc' hq hq' hne hdc hdc' hgc hgc' haa => ?_⟩
 ·obtain ⟨blk0, h0, hdd, hne, heq, _⟩ := old hc
  by_cases hcb : c = b
  ·subst hcb
   have hblk := heq rfl
   subst hblk
   have hqp : q = p := by rw [hp] at hq; injection hq with hq; exact hq.symm
   subst hqp
   exact .inr (.inr (.inr (.inr (.inl ⟨hg, rfl, hoff, l', o', rfl, by simp [hlt], hent⟩))))
  ·have hblk := hne hcb
   subst hblk
   refine (h.blks c _ q h0 hq).keep fun hdc hgc j hj => ?_
   have := h.inj c b _ _ q p h0 hm hq hp hcb hdc rfl hgc hg (by simp [Kind.isArg]) j hj
   have hne : p.blk ≠ j := fun e => this (by rw [<- e]; exact foot_head _ p)
   simp [hne]
 ·obtain ⟨b0, h0, hd0, _, _, hk0⟩ := old hc
  obtain ⟨b0', h0', hd0', _, _, hk0'⟩ := old hc'
  rw [foot_kind q hk0, foot_kind q' hk0']
  exact h.inj c c' b0 b0' q q' h0 h0' hq hq' hne (hd0 hdc) (hd0' hdc') hgc hgc' (by rw [<- hk0, <- hk0']; exact haa)
end
end Go.Vi
