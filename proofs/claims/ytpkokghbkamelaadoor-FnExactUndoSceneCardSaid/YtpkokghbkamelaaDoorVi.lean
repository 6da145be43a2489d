/- A verification-condition generator of my own over the model's code, on private values; sound for the model's calls. Plain theorems; nothing here names a program. -/
import Derived.Test.YtpkokghbkamelaaDoorVia
import Derived.WalkKit
import Derived.WalkSpells
import Derived.WalkLawsBesides
import Derived.Deep.Quiet
import Derived.Deep.LoopGhost
import Derived.StillTail
import Derived.Great.BuildSlice
namespace Go.Vi
open Go.RowKit

/-- A condition that is left as it stands. -/
structure At (p : Prop) : Prop where
 out : p
@[simp] theorem at_iff {p : Prop} : At p ↔ p := ⟨fun h => h.out, fun h => ⟨h⟩⟩

/-- What a slot or a cell is known to hold. -/
inductive V where
 | undef
 | int (k : IntKind) (n : Int)
 | bool (b : Bool)
 | lit (b : Bool)
 | str (s : List UInt8)
 | ptr (b o : Nat)
 | nilp
 | raw (x : Value)
 | row (b n : Nat)
 | fn (f : FuncId) (caps : List Nat)
 | mp (b : Nat)
 | arr (n : Nat) (l : List UInt8)
 | elt (b o n j : Nat)
 | sub (b o n m : Nat)
 | inr (b i n : Nat)
 | iptr (b i j : Nat)
 | view (b o sz n : Nat) (q : Option Nat)
 | emp
 | gp (g o : Nat)
 | agg (cs : List V)
 | tup (cs : List V)
 deriving Inhabited

/-- A cell of a row of structs of numbers and texts: the one or the other. -/
structure Sc where
 i : Int
 s : List UInt8
 deriving Inhabited
/-- What a cell of them is. -/
inductive Sh where
 | int (k : IntKind)
 | str
 deriving DecidableEq, Inhabited
def Sh.v : Sh -> Sc -> V
 | .int k, c => .int k c.i
 | .str, c => .str c.s
def shAt (sh : List Sh) (j : Nat) : Sh := sh.getD (j % sh.length) .str
def recV (sh : List Sh) : Nat -> List Sc -> List V
 | _, [] => []
 | j, c :: r => (shAt sh j).v c :: recV sh (j + 1) r

inductive Cells where
 | vals (vs : List V)
 | ints (k : IntKind) (l : List Int)
 | bytes (l : List UInt8)
 | strs (l : List (List UInt8))
 | bools (l : List Bool)
 | map (l : List (V × V))
 | mix (pre : List V) (n : Nat) (l : List UInt8) (post : List V)
 | mixi (pre : List V) (n : Nat) (l : List Int) (post : List V)
 | recs (sh : List Sh) (l : List Sc)
 | mat (k : IntKind) (e : TypeId) (l : List (List Int))
 | dead
 deriving Inhabited
/-- So many bytes: what is not there is 0. -/
def padB (n : Nat) (l : List UInt8) : List UInt8 := l.take n ++ List.replicate (n - l.length) 0
def byV (b : UInt8) : V := .int .u8 b.toNat
theorem padB_length (n : Nat) (l : List UInt8) : (padB n l).length = n := by
 unfold padB; simp only [List.length_append, List.length_take, List.length_replicate]; omega
theorem padB_self {n : Nat} {l : List UInt8} (h : l.length = n) : padB n l = l := by
 unfold padB; rw [<- h]; simp
theorem padB_getD (n : Nat) (l : List UInt8) (i : Nat) (h : i < n) : (padB n l).getD i 0 = l.getD i 0 := by
 unfold padB
 simp only [List.getD_eq_getElem?_getD, List.getElem?_append, List.length_take, List.getElem?_take, List.getElem?_replicate]
 by_cases hi : i < l.length
 ·rw [if_pos (by omega), if_pos h]
 ·rw [if_neg (by omega), List.getElem?_eq_none (by omega)]
  split <;> rfl

/-- So many numbers: what is not there is 0. -/
def padI (n : Nat) (l : List Int) : List Int := l.take n ++ List.replicate (n - l.length) 0
theorem padI_length (n : Nat) (l : List Int) : (padI n l).length = n := by
 unfold padI; simp only [List.length_append, List.length_take, List.length_replicate]; omega
theorem padI_self {n : Nat} {l : List Int} (h : l.length = n) : padI n l = l := by
 unfold padI; rw [<- h]; simp
theorem padI_getD (n : Nat) (l : List Int) (i : Nat) (h : i < n) : (padI n l).getD i 0 = l.getD i 0 := by
 unfold padI
 simp only [List.getD_eq_getElem?_getD, List.getElem?_append, List.length_take, List.getElem?_take, List.getElem?_replicate]
 by_cases hi : i < l.length
 ·rw [if_pos (by omega), if_pos h]
 ·rw [if_neg (by omega), List.getElem?_eq_none (by omega)]
  split <;> rfl
@[simp] theorem recV_length (sh : List Sh) : ∀ (j : Nat) (l : List Sc), (recV sh j l).length = l.length
 | _, [] => rfl
 | j, c :: r => by simp [recV, recV_length sh (j + 1) r]
theorem recV_get (sh : List Sh) : ∀ (l : List Sc) (j i : Nat), (recV sh j l)[i]? = (l[i]?).map (shAt sh (j + i)).v
 | [], _, _ => by simp [recV]
 | c :: r, j, 0 => by simp [recV]
 | c :: r, j, i + 1 => by
  simp only [recV, List.getElem?_cons_succ]
  rw [recV_get sh r (j + 1) i, show j + 1 + i = j + (i + 1) by omega]
theorem recV_set (sh : List Sh) (l : List Sc) (j o : Nat) (c : Sc) : recV sh j (l.set o c) = (recV sh j l).set o ((shAt sh (j + o)).v c) := by
 apply List.ext_getElem?
 intro i
 rw [recV_get, List.getElem?_set, List.getElem?_set, recV_get, recV_length]
 by_cases h : o = i
 ·subst h
  simp only [if_true]
  split <;> rfl
 ·simp only [h, if_false]
theorem recV_append (sh : List Sh) : ∀ (l l' : List Sc) (j : Nat), recV sh j (l ++ l') = recV sh j l ++ recV sh (j + l.length) l'
 | [], l', j => by simp [recV]
 | c :: r, l', j => by
  simp only [List.cons_append, recV, List.length_cons]
  rw [recV_append sh r l' (j + 1), show j + 1 + r.length = j + (r.length + 1) by omega]
theorem shAt_mod {sh : List Sh} {j j' : Nat} (h : j % sh.length = j' % sh.length) : shAt sh j = shAt sh j' := by unfold shAt; rw [h]
theorem recV_mod (sh : List Sh) : ∀ (l : List Sc) {j j' : Nat}, j % sh.length = j' % sh.length -> recV sh j l = recV sh j' l
 | [], _, _, _ => rfl
 | c :: r, j, j', h => by
  simp only [recV]
  rw [shAt_mod h, recV_mod sh r (j := j + 1) (j' := j' + 1) (by rw [Nat.add_mod, h, <- Nat.add_mod])]
theorem recV_drop (sh : List Sh) (l : List Sc) (j m : Nat) : recV sh (j + m) (l.drop m) = (recV sh j l).drop m := by
 apply List.ext_getElem?
 intro i
 rw [recV_get, List.getElem?_drop, List.getElem?_drop, recV_get, Nat.add_assoc]
theorem recV_take (sh : List Sh) (l : List Sc) (j m : Nat) : recV sh j (l.take m) = (recV sh j l).take m := by
 apply List.ext_getElem?
 intro i
 rw [recV_get, List.getElem?_take, List.getElem?_take, recV_get]
 split <;> rfl

/-- A variable's block; a row of the call's own; a row whose bytes a string may share behind its end; a part of a block that came in, which is read alone. -/
inductive Kind where
 | box | row | marked
 | rows (s : Nat)
 | arg (s : Nat)
 | map
 | mat
 | amat
 | gl (g : Nat)
 deriving DecidableEq, Inhabited
/-- A row of the call's own, of elements of so many cells. -/
def Kind.isRow : Kind -> Bool
 | .row => true
 | .rows _ => true
 | .arg _ => true
 | _ => false
def Kind.isArg : Kind -> Bool
 | .arg _ => true
 | .amat => true
 | .gl _ => true
 | _ => false
/-- A row of rows, of the call's own or that came in. -/
def Kind.isMat : Kind -> Bool
 | .mat => true
 | .amat => true
 | _ => false
structure Blk where
 cs : Cells
 elem : TypeId
 kind : Kind
 deriving Inhabited
def frz (k : Kind) (n : Nat) : Nat × Nat :=
 match k with
 | .marked => (n, n + 1)
 | _ => (0, 0)

def Cells.toVs : Cells -> List V
 | .vals vs => vs
 | .ints k l => l.map (V.int k)
 | .bytes l => l.map fun b => V.int .u8 b.toNat
 | .strs l => l.map V.str
 | .bools l => l.map V.bool
 | .map _ => []
 | .mix a n l z => a ++ (padB n l).map byV ++ z
 | .mixi a n l z => a ++ (padI n l).map (V.int .i64) ++ z
 | .recs sh l => recV sh 0 l
 | .mat _ _ _ => []
 | .dead => []

def Cells.len : Cells -> Nat
 | .vals vs => vs.length
 | .ints _ l => l.length
 | .bytes l => l.length
 | .strs l => l.length
 | .bools l => l.length
 | .recs _ l => l.length
 | _ => 0
theorem Cells.len_le (c : Cells) : c.len <= c.toVs.length := by
 cases c <;> simp [Cells.len, Cells.toVs]
def Cells.isDead : Cells -> Bool
 | .dead => true
 | _ => false

/-- Where a row of a row of rows is. -/
structure Sub where
 blk : Nat
 cap : Nat
 ghost : Bool
 off : Nat
 nil : Option Addr
 deriving Inhabited
structure Place where
 blk : Nat
 cap : Nat
 ghost : Bool
 off : Nat
 nil : Option Addr
 subs : List Sub
/-- What came in has room for its cells; a variable of the program's stands where it stands. -/
def Kind.room (k : Kind) (p : Place) (n : Nat) : Prop :=
 match k with
 | .arg s => n <= p.cap * s
 | .gl g => p.blk = g /\ p.off = 0
 | _ => True
def Sub.place (s : Sub) : Place := ⟨s.blk, s.cap, s.ghost, s.off, s.nil, []⟩
def Place.sub (p : Place) : Sub := ⟨p.blk, p.cap, p.ghost, p.off, p.nil⟩
def Sub.val (s : Sub) (n : Nat) : Value := match s.ghost with | true => .slice s.nil 0 s.cap | false => .slice (some ⟨s.blk, s.off, none⟩) n s.cap
/-- The blocks of the world that the rows lie in. -/
def subFoot : List Sub -> List Nat
 | [] => []
 | s :: r => match s.ghost with | true => subFoot r | false => s.blk :: subFoot r
theorem mem_subFoot : ∀ {l : List Sub} {k : Nat}, k ∈ subFoot l ↔ ∃ (i : Nat) (s : Sub), l[i]? = some s /\ s.ghost = false /\ s.blk = k
 | [], k => by simp [subFoot]
 | s :: r, k => by
  have ih := @mem_subFoot r k
  unfold subFoot
  constructor
  ·intro h
   split at h
   ·obtain ⟨i, u, h1, h2⟩ := ih.1 h
    exact ⟨i + 1, u, by simpa using h1, h2⟩
   ·rename_i hg
    rcases List.mem_cons.1 h with h | h
    ·exact ⟨0, s, rfl, hg, h.symm⟩
    ·obtain ⟨i, u, h1, h2⟩ := ih.1 h
     exact ⟨i + 1, u, by simpa using h1, h2⟩
  ·rintro ⟨i, u, h1, h2, h3⟩
   cases i with
   | zero =>
    simp at h1
    subst h1
    simp [h2, h3]
   | succ i =>
    have := ih.2 ⟨i, u, by simpa using h1, h2, h3⟩
    split
    ·exact this
    ·exact List.mem_cons_of_mem _ this
def Blk.foot (b : Blk) (p : Place) : List Nat :=
 match b.kind with
 | .mat => p.blk :: subFoot p.subs
 | .amat => p.blk :: subFoot p.subs
 | _ => [p.blk]
theorem foot_head (b : Blk) (p : Place) : p.blk ∈ b.foot p := by unfold Blk.foot; split <;> simp
theorem foot_one {b : Blk} {p : Place} (h : b.kind.isMat = false) : b.foot p = [p.blk] := by
 unfold Blk.foot
 split
 ·rename_i e; rw [e] at h; cases h
 ·rename_i e; rw [e] at h; cases h
 ·rfl
theorem foot_mat {b : Blk} {p : Place} (h : b.kind.isMat = true) : b.foot p = p.blk :: subFoot p.subs := by
 unfold Blk.foot
 split
 ·rfl
 ·rfl
 ·rename_i h1 h2
  unfold Kind.isMat at h
  split at h
  ·rename_i e; exact absurd e h1
  ·rename_i e; exact absurd e h2
  ·cases h
theorem foot_same {b b' : Blk} (p : Place) (h : b.kind.isMat = b'.kind.isMat) : b.foot p = b'.foot p := by
 cases hm : b.kind.isMat with
 | true => rw [foot_mat hm, foot_mat (h ▸ hm)]
 | false => rw [foot_one hm, foot_one (h ▸ hm)]
theorem foot_kind {b b' : Blk} (p : Place) (h : b.kind = b'.kind) : b.foot p = b'.foot p := by unfold Blk.foot; rw [h]

/-- The room of a part: what is left of the row's, or what the cut says. -/
def vcap (cap o : Nat) (q : Option Nat) : Nat := match q with | none => cap - o | some m => m
def Place.base (p : Place) : Option Addr := match p.ghost with | true => p.nil | false => some ⟨p.blk, p.off, none⟩
def ofL (l : List UInt8) : ByteArray := ⟨l.toArray⟩
def addrOf (p : Place) (o : Nat) : Addr := ⟨p.blk, p.off + o, none⟩
theorem addrOf_own {p : Place} (h : p.off = 0) (o : Nat) : addrOf p o = ⟨p.blk, o, none⟩ := by unfold addrOf; rw [h, Nat.zero_add]

mutual
def Rep (ρ : List Place) : V -> Value -> Prop
 | .undef, _ => True
 | .int k n, x => x = .int k n
 | .bool b, x => x = .bool b
 | .lit b, x => x = .bool b
 | .str s, x => x = .string (ofL s)
 | .ptr b o, x => ∃ p, ρ[b]? = some p /\ x = .pointer (some (addrOf p o))
 | .nilp, x => x = .pointer none
 | .raw y, x => x = y
 | .row b n, x => ∃ p, ρ[b]? = some p /\ ((p.ghost = true /\ n = 0 /\ x = .slice p.nil 0 p.cap) \/ (p.ghost = false /\ x = .slice (some (addrOf p 0)) n p.cap))
 | .fn f caps, x => ∃ ps : List Place, caps.map (ρ[·]?) = ps.map some /\ x = .func (.func f) #[] (ps.map fun p => Value.pointer (some (addrOf p 0))).toArray
 | .mp b, x => ∃ p, ρ[b]? = some p /\ x = .map (some p.blk)
 | .arr n l, x => x = .agg ((padB n l).map fun c => Value.int .u8 c.toNat).toArray
 | .elt b o n j, x => j < n /\ ∃ p, ρ[b]? = some p /\ x = .pointer (some (addrOf p (o + j)))
 | .sub b o n m, x => m <= n /\ ∃ p, ρ[b]? = some p /\ x = .slice (some (addrOf p o)) m n
 | .inr b i n, x => ∃ p s, ρ[b]? = some p /\ p.subs[i]? = some s /\ (s.ghost = true -> n = 0) /\ x = s.val n
 | .iptr b i j, x => ∃ p s, ρ[b]? = some p /\ p.subs[i]? = some s /\ s.ghost = false /\ x = .pointer (some (addrOf s.place j))
 | .view b o sz n q, x => ∃ p, ρ[b]? = some p /\ (p.ghost = true -> n = 0) /\ (o + n <= p.cap /\ n <= vcap p.cap o q) /\ x = .slice (match Nat.beq (vcap p.cap o q) 0 with | true => p.base | false => p.base.map (·.add (o * sz))) n (vcap p.cap o q)
 | .emp, x => ∃ a : Option Addr, x = .slice a 0 0
 | .gp g o, x => x = .pointer (some ⟨g, o, none⟩)
 | .agg cs, x => ∃ xs : List Value, x = .agg xs.toArray /\ RepL ρ cs xs
 | .tup cs, x => ∃ xs : List Value, x = .tuple xs.toArray /\ RepL ρ cs xs
def RepL (ρ : List Place) : List V -> List Value -> Prop
 | [], xs => xs = []
 | v :: vs, xs => ∃ x r, xs = x :: r /\ Rep ρ v x /\ RepL ρ vs r
end

theorem RepL.length {ρ : List Place} : ∀ {vs : List V} {xs : List Value}, RepL ρ vs xs -> vs.length = xs.length
 | [], xs, h => by simp [RepL] at h; simp [h]
 | v :: vs, xs, h => by
  simp only [RepL] at h
  obtain ⟨x, r, rfl, _, hr⟩ := h
  simp [RepL.length hr]

theorem RepL.get {ρ : List Place} : ∀ {vs : List V} {xs : List Value}, RepL ρ vs xs -> ∀ {i : Nat} {v : V}, vs[i]? = some v -> ∃ x, xs[i]? = some x /\ Rep ρ v x
 | [], xs, h, i, v, hv => by simp at hv
 | u :: vs, xs, h, i, v, hv => by
  simp only [RepL] at h
  obtain ⟨x, r, rfl, hx, hr⟩ := h
  cases i with
  | zero => simp at hv; subst hv; exact ⟨x, by simp, hx⟩
  | succ i => simp at hv; obtain ⟨y, hy, hyr⟩ := RepL.get hr hv; exact ⟨y, by simpa using hy, hyr⟩

theorem RepL.of {ρ : List Place} : ∀ {vs : List V} {xs : List Value}, vs.length = xs.length -> (∀ (i : Nat) (v : V) (x : Value), vs[i]? = some v -> xs[i]? = some x -> Rep ρ v x) -> RepL ρ vs xs
 | [], [], _, _ => by simp [RepL]
 | [], _ :: _, h, _ => by simp at h
 | _ :: _, [], h, _ => by simp at h
 | v :: vs, x :: xs, h, hg => by
  simp only [RepL]
  refine ⟨x, xs, rfl, hg 0 v x (by simp) (by simp), RepL.of (by simpa using h) (fun i u y hu hy => hg (i + 1) u y (by simpa using hu) (by simpa using hy))⟩

theorem RepL.get2 {ρ : List Place} {vs : List V} {xs : List Value} (h : RepL ρ vs xs) {i : Nat} {v : V} {x : Value} (hv : vs[i]? = some v) (hx : xs[i]? = some x) : Rep ρ v x := by
 obtain ⟨y, hy, hr⟩ := h.get hv
 rw [hx] at hy
 injection hy with hy
 rw [hy]; exact hr

theorem RepL.set {ρ : List Place} {vs : List V} {xs : List Value} (h : RepL ρ vs xs) (i : Nat) {v : V} {x : Value} (hv : Rep ρ v x) : RepL ρ (vs.set i v) (xs.set i x) := by
 refine RepL.of (by simpa using h.length) fun j u y hu hy => ?_
 rw [List.getElem?_set] at hu hy
 by_cases hij : i = j
 ·subst hij
  have hl := h.length
  by_cases hlt : i < vs.length
  ·have hlt' : i < xs.length := by omega
   simp [hlt] at hu; simp [hlt'] at hy
   subst hu; subst hy; exact hv
  ·simp [hlt] at hu
 ·simp only [hij, if_false] at hu hy
  exact h.get2 hu hy

theorem RepL.sub {ρ : List Place} {vs : List V} {xs : List Value} (h : RepL ρ vs xs) (a n : Nat) : RepL ρ ((vs.drop a).take n) ((xs.drop a).take n) := by
 have hl := h.length
 refine RepL.of (by simp [hl]) fun j u y hu hy => ?_
 by_cases hj : j < n
 ·simp [hj] at hu hy
  exact h.get2 hu hy
 ·simp [List.getElem?_take, hj] at hu

theorem RepL.append {ρ : List Place} : ∀ {vs us : List V} {xs ys : List Value}, RepL ρ vs xs -> RepL ρ us ys -> RepL ρ (vs ++ us) (xs ++ ys)
 | [], us, xs, ys, h, g => by simp [RepL] at h; subst h; simpa using g
 | v :: vs, us, xs, ys, h, g => by
  simp only [RepL] at h
  obtain ⟨x, r, rfl, hx, hr⟩ := h
  simp only [List.cons_append, RepL]
  exact ⟨x, r ++ ys, rfl, hx, RepL.append hr g⟩

/-! ### more places -/
theorem getElem?_pre {ρ ρ' : List Place} (hp : ρ <+: ρ') {b : Nat} {p : Place} (h : ρ[b]? = some p) : ρ'[b]? = some p := by
 obtain ⟨t, rfl⟩ := hp
 have hb : b < ρ.length := by
  rcases Nat.lt_or_ge b ρ.length with h' | h'
  ·exact h'
  ·rw [List.getElem?_eq_none h'] at h; cases h
 rw [List.getElem?_append_left hb]; exact h

mutual
theorem Rep.mono {ρ ρ' : List Place} (hp : ρ <+: ρ') : ∀ {v : V} {x : Value}, Rep ρ v x -> Rep ρ' v x
 | .undef, _, _ => by simp [Rep]
 | .int k n, x, h => by simpa [Rep] using h
 | .bool b, x, h => by simpa [Rep] using h
 | .lit b, x, h => by simpa [Rep] using h
 | .str s, x, h => by simpa [Rep] using h
 | .ptr b o, x, h => by
  simp only [Rep] at h ⊢
  obtain ⟨p, h1, h2⟩ := h
  exact ⟨p, getElem?_pre hp h1, h2⟩
 | .nilp, x, h => by simpa [Rep] using h
 | .raw _, x, h => by simpa [Rep] using h
 | .row b n, x, h => by
  simp only [Rep] at h ⊢
  obtain ⟨p, h1, h2⟩ := h
  exact ⟨p, getElem?_pre hp h1, h2⟩
 | .fn f caps, x, h => by
  simp only [Rep] at h ⊢
  obtain ⟨ps, h1, h2⟩ := h
  refine ⟨ps, ?_, h2⟩
  rw [<- h1]
  refine List.map_congr_left fun b hb => ?_
  have : ∃ p, ρ[b]? = some p := by
   have hm : ρ[b]? ∈ ps.map some := by rw [<- h1]; exact List.mem_map_of_mem hb
   obtain ⟨p, _, hp⟩ := List.mem_map.1 hm
   exact ⟨p, hp.symm⟩
  obtain ⟨p, hbp⟩ := this
  rw [hbp, getElem?_pre hp hbp]
 | .mp b, x, h => by
  simp only [Rep] at h ⊢
  obtain ⟨p, h1, h2⟩ := h
  exact ⟨p, getElem?_pre hp h1, h2⟩
 | .arr _ _, x, h => by simpa [Rep] using h
 | .emp, x, h => by simpa [Rep] using h
 | .gp _ _, x, h => by simpa [Rep] using h
 | .elt b o n j, x, h => by
  simp only [Rep] at h ⊢
  obtain ⟨h0, p, h1, h2⟩ := h
  exact ⟨h0, p, getElem?_pre hp h1, h2⟩
 | .sub b o n m, x, h => by
  simp only [Rep] at h ⊢
  obtain ⟨h0, p, h1, h2⟩ := h
  exact ⟨h0, p, getElem?_pre hp h1, h2⟩
 | .inr b i n, x, h => by
  simp only [Rep] at h ⊢
  obtain ⟨p, s, h1, h2⟩ := h
  exact ⟨p, s, getElem?_pre hp h1, h2⟩
 | .iptr b i j, x, h => by
  simp only [Rep] at h ⊢
  obtain ⟨p, s, h1, h2⟩ := h
  exact ⟨p, s, getElem?_pre hp h1, h2⟩
 | .view b o sz n q, x, h => by
  simp only [Rep] at h ⊢
  obtain ⟨p, h1, h2⟩ := h
  exact ⟨p, getElem?_pre hp h1, h2⟩
 | .agg cs, x, h => by
  simp only [Rep] at h ⊢
  obtain ⟨xs, h1, h2⟩ := h
  exact ⟨xs, h1, RepL.mono hp h2⟩
 | .tup cs, x, h => by
  simp only [Rep] at h ⊢
  obtain ⟨xs, h1, h2⟩ := h
  exact ⟨xs, h1, RepL.mono hp h2⟩
theorem RepL.mono {ρ ρ' : List Place} (hp : ρ <+: ρ') : ∀ {vs : List V} {xs : List Value}, RepL ρ vs xs -> RepL ρ' vs xs
 | [], xs, h => by simpa [RepL] using h
 | v :: vs, xs, h => by
  simp only [RepL] at h ⊢
  obtain ⟨x, r, h1, h2, h3⟩ := h
  exact ⟨x, r, h1, Rep.mono hp h2, RepL.mono hp h3⟩
end

/-! ### names below a bound; values without names -/
mutual
def V.under (n : Nat) : V -> Bool
 | .ptr b _ => Nat.blt b n
 | .row b _ => Nat.blt b n
 | .fn _ caps => caps.all (Nat.blt · n)
 | .mp b => Nat.blt b n
 | .elt b _ _ _ => Nat.blt b n
 | .sub b _ _ _ => Nat.blt b n
 | .inr b _ _ => Nat.blt b n
 | .iptr b _ _ => Nat.blt b n
 | .view b _ _ _ _ => Nat.blt b n
 | .agg cs => underL n cs
 | .tup cs => underL n cs
 | _ => true
def underL (n : Nat) : List V -> Bool
 | [] => true
 | v :: vs => v.under n && underL n vs
end

theorem take_get {ρ : List Place} {n b : Nat} (h : Nat.blt b n = true) : (ρ.take n)[b]? = ρ[b]? := by
 have hb : b < n := by simpa using h
 rw [List.getElem?_take, if_pos hb]

mutual
theorem Rep.take {ρ : List Place} {n : Nat} : ∀ {v : V} {x : Value}, v.under n = true -> Rep ρ v x -> Rep (ρ.take n) v x
 | .undef, _, _, _ => by simp [Rep]
 | .int k m, x, _, h => by simpa [Rep] using h
 | .bool b, x, _, h => by simpa [Rep] using h
 | .lit b, x, _, h => by simpa [Rep] using h
 | .str s, x, _, h => by simpa [Rep] using h
 | .ptr b o, x, hb, h => by
  simp only [Rep] at h ⊢
  simp only [V.under] at hb
  rw [take_get hb]; exact h
 | .nilp, x, _, h => by simpa [Rep] using h
 | .raw _, x, _, h => by simpa [Rep] using h
 | .row b m, x, hb, h => by
  simp only [Rep] at h ⊢
  simp only [V.under] at hb
  rw [take_get hb]; exact h
 | .fn f caps, x, hb, h => by
  simp only [Rep] at h ⊢
  simp only [V.under, List.all_eq_true] at hb
  obtain ⟨ps, h1, h2⟩ := h
  refine ⟨ps, ?_, h2⟩
  rw [<- h1]
  exact List.map_congr_left fun b hm => take_get (hb b hm)
 | .mp b, x, hb, h => by
  simp only [Rep] at h ⊢
  simp only [V.under] at hb
  rw [take_get hb]; exact h
 | .arr _ _, x, _, h => by simpa [Rep] using h
 | .emp, x, _, h => by simpa [Rep] using h
 | .gp _ _, x, _, h => by simpa [Rep] using h
 | .elt b o n j, x, hb, h => by
  simp only [Rep] at h ⊢
  simp only [V.under] at hb
  rw [take_get hb]; exact h
 | .sub b o n m, x, hb, h => by
  simp only [Rep] at h ⊢
  simp only [V.under] at hb
  rw [take_get hb]; exact h
 | .inr b i n, x, hb, h => by
  simp only [Rep] at h ⊢
  simp only [V.under] at hb
  rw [take_get hb]; exact h
 | .iptr b i j, x, hb, h => by
  simp only [Rep] at h ⊢
  simp only [V.under] at hb
  rw [take_get hb]; exact h
 | .view b o sz n q, x, hb, h => by
  simp only [Rep] at h ⊢
  simp only [V.under] at hb
  rw [take_get hb]; exact h
 | .agg cs, x, hb, h => by
  simp only [Rep] at h ⊢
  simp only [V.under] at hb
  obtain ⟨xs, h1, h2⟩ := h
  exact ⟨xs, h1, RepL.takeρ hb h2⟩
 | .tup cs, x, hb, h => by
  simp only [Rep] at h ⊢
  simp only [V.under] at hb
  obtain ⟨xs, h1, h2⟩ := h
  exact ⟨xs, h1, RepL.takeρ hb h2⟩
theorem RepL.takeρ {ρ : List Place} {n : Nat} : ∀ {vs : List V} {xs : List Value}, underL n vs = true -> RepL ρ vs xs -> RepL (ρ.take n) vs xs
 | [], xs, _, h => by simpa [RepL] using h
 | v :: vs, xs, hb, h => by
  simp only [RepL] at h ⊢
  simp only [underL, Bool.and_eq_true] at hb
  obtain ⟨x, r, h1, h2, h3⟩ := h
  exact ⟨x, r, h1, Rep.take hb.1 h2, RepL.takeρ hb.2 h3⟩
end

/-- A value that bears no name reads alike everywhere. -/
theorem Rep.closed {ρ ρ' : List Place} {v : V} {x : Value} (hb : v.under 0 = true) (h : Rep ρ v x) : Rep ρ' v x := by
 have h0 := Rep.take hb h
 rw [List.take_zero] at h0
 exact h0.mono (List.nil_prefix)
theorem RepL.closed {ρ ρ' : List Place} {vs : List V} {xs : List Value} (hb : underL 0 vs = true) (h : RepL ρ vs xs) : RepL ρ' vs xs := by
 have h0 := RepL.takeρ hb h
 rw [List.take_zero] at h0
 exact h0.mono (List.nil_prefix)

/-! ### memory -/
/-- What the entries of a map are, the eldest first. -/
def EntRel : List (V × V) -> List MapEntry -> Nat -> Prop
 | [], [], _ => True
 | (k, v) :: l, e :: es, n => Rep [] k e.key /\ Rep [] v e.val /\ e.born < n /\ (∀ x ∈ es, e.born < x.born) /\ EntRel l es n
 | _, _, _ => False
/-- What the list of a map's block tells: a text that is gone through (from where on); a map that is gone through (where it lies, its clock, the stamps of those that have come; perhaps the entry that came last); a map at which that is done (where it lies, its clock, the stamps of its entries); a map. -/
inductive MapSpec where
 | text (s : List UInt8) (n : Nat)
 | iter (g c : Nat) (seen : List Nat)
 | stamped (g c : Nat) (bs : List Nat) (l : List (V × V))
 | plain
def specOf : List (V × V) -> MapSpec
 | [(.gp n _, .str s)] => .text s n
 | [(.gp g _, .fn c seen)] => .iter g c seen
 | [(.gp g _, .fn c seen), _] => .iter g c seen
 | (.ptr g _, .fn c bs) :: l => .stamped g c bs l
 | _ => .plain
/-- No entries that tell something else. -/
def plainB (l : List (V × V)) : Bool :=
 match specOf l with
 | .plain => true
 | _ => false
/-- What lies in the heap for it, at 'a'. -/
def MapIs (l : List (V × V)) (a : Nat) (o : Obj) : Prop :=
 match specOf l with
 | .text s n => o = .stringIter (ofL s) n
 | .iter g c seen => o = .mapIter (some g) c seen.toArray c
 | .stamped g c bs l' => a = g /\ ∃ es : Array MapEntry, o = .map es c /\ EntRel l' es.toList c /\ es.toList.map (·.born) = bs
 | .plain => ∃ (es : Array MapEntry) (clock : Nat), o = .map es clock /\ EntRel l es.toList clock
/-- A row of a row of rows. -/
def SubOf (own : Bool) (kd : IntKind) (et : TypeId) (s : Sub) (row : List Int) (w : World) : Prop :=
 (s.ghost = true /\ row = [] /\ (own = true -> s.nil = none /\ s.cap = 0)) \/
 (s.ghost = false /\ ∃ (cur : List Value) (e : TypeId) (fz : Nat × Nat), w.heap[s.blk]? = some (.cells cur.toArray e fz) /\ (cur.drop s.off).take row.length = row.map (Value.int kd) /\ row.length <= s.cap /\
  (own = true -> e = et /\ fz = (0, 0) /\ cur.length = s.cap /\ s.cap <= maxLen /\ s.off = 0))
/-- A row of rows. -/
def MatOf (p : Place) (blk : Blk) (w : World) : Prop :=
 blk.kind.isMat = true /\ ∃ (kd : IntKind) (et : TypeId) (l : List (List Int)), blk.cs = .mat kd et l /\ p.subs.length = l.length /\
  (∀ (i : Nat) (s : Sub), p.subs[i]? = some s -> SubOf (!blk.kind.isArg) kd et s (l.getD i []) w) /\
  ((p.ghost = true /\ l = [] /\ (blk.kind.isArg = false -> p.nil = none /\ p.cap = 0)) \/
   (p.ghost = false /\ ∃ (cur : List Value) (e : TypeId) (fz : Nat × Nat), w.heap[p.blk]? = some (.cells cur.toArray e fz) /\ (∀ (i : Nat) (s : Sub), p.subs[i]? = some s -> cur[p.off + i]? = some (s.val (l.getD i []).length)) /\
    (blk.kind.isArg = false -> e = blk.elem /\ fz = (0, 0) /\ cur.length = p.cap /\ p.cap <= maxLen /\ p.off = 0 /\ (p.blk :: subFoot p.subs).Nodup)))
def BRel (ρ : List Place) (p : Place) (blk : Blk) (w : World) : Prop :=
 blk.cs.isDead = true \/
 (p.ghost = true /\ blk.kind.isRow = true /\ blk.cs.toVs = [] /\ (blk.kind.isArg = false -> p.nil = none /\ p.cap = 0)) \/
 (p.ghost = false /\ ∃ cur : List Value, w.heap[p.blk]? = some (.cells cur.toArray blk.elem (frz blk.kind cur.length)) /\ RepL ρ blk.cs.toVs (cur.take blk.cs.toVs.length) /\
  (match blk.kind with | .box => cur.length = blk.cs.toVs.length | .rows s => cur.length = p.cap * s /\ p.cap <= maxLen | .map => False | .mat => False | _ => cur.length = p.cap /\ p.cap <= maxLen) /\ p.off = 0 /\ blk.kind.isArg = false) \/
 (p.ghost = false /\ (blk.kind.isArg = true /\ blk.kind.isMat = false) /\ ∃ (cur : List Value) (e : TypeId) (fz : Nat × Nat), w.heap[p.blk]? = some (.cells cur.toArray e fz) /\ RepL ρ blk.cs.toVs ((cur.drop p.off).take blk.cs.toVs.length) /\ blk.kind.room p blk.cs.toVs.length) \/
 (p.ghost = false /\ blk.kind = .map /\ p.off = 0 /\ ∃ (l : List (V × V)) (o : Obj), blk.cs = .map l /\ w.heap[p.blk]? = some o /\ MapIs l p.blk o) \/
 MatOf p blk w

theorem frozen_frz {w : World} {g i : Nat} {cur : List Value} {e : TypeId} {k : Kind} (h : w.heap[g]? = some (.cells cur.toArray e (frz k cur.length))) (hi : i < cur.length) : w.frozen? ⟨g, i, none⟩ = false := by
 unfold World.frozen?
 simp only [h]
 cases k
 ·simp [frz]
 ·simp [frz]
 ·have h2 : ¬ cur.length <= i := by omega
  simp [frz, h2]
 ·simp [frz]
 ·simp [frz]
 ·simp [frz]
 ·simp [frz]
 ·simp [frz]
 ·simp [frz]
theorem heap_set_any {w : World} {g i : Nat} {cs : Array Value} {e : TypeId} {fz : Nat × Nat} {v : Value} (h : w.heap[g]? = some (.cells cs e fz)) : (w.setCell ⟨g, i, none⟩ v).heap[g]? = some (.cells (cs.setIfInBounds i v) e fz) := by
 simp [World.setCell, Array.getElem?_modify, h]

structure MRel (ρ : List Place) (m : List Blk) (w : World) : Prop where
 len : ρ.length = m.length
 blks : ∀ (b : Nat) (blk : Blk) (p : Place), m[b]? = some blk -> ρ[b]? = some p -> BRel ρ p blk w
 inj : ∀ (b b' : Nat) (blk blk' : Blk) (p p' : Place), m[b]? = some blk -> m[b']? = some blk' -> ρ[b]? = some p -> ρ[b']? = some p' -> b ≠ b' -> blk.cs.isDead = false -> blk'.cs.isDead = false -> p.ghost = false -> p'.ghost = false -> (blk.kind.isArg && blk'.kind.isArg) = false -> ∀ k, k ∈ blk.foot p -> k ∉ blk'.foot p'

/-- All but the blocks 'W' is as it was. -/
structure Keep (W : Nat -> Prop) (w w' : World) : Prop where
 os : w'.os = w.os
 tape : w'.tape = w.tape
 output : w'.output = w.output
 size : w.heap.size <= w'.heap.size
 block : ∀ k, k < w.heap.size -> ¬ W k -> w'.heap[k]? = w.heap[k]?

theorem Keep.refl (W : Nat -> Prop) (w : World) : Keep W w w := ⟨rfl, rfl, rfl, Nat.le_refl _, fun _ _ _ => rfl⟩
theorem Keep.trans {W : Nat -> Prop} {a b c : World} (h : Keep W a b) (k : Keep (fun i => W i \/ a.heap.size <= i) b c) : Keep W a c :=
 ⟨k.os.trans h.os, k.tape.trans h.tape, k.output.trans h.output, Nat.le_trans h.size k.size, fun i hi hn =>
  (k.block i (Nat.lt_of_lt_of_le hi h.size) (by rintro (h1 | h1); exact hn h1; omega)).trans (h.block i hi hn)⟩
theorem Keep.mono {W W' : Nat -> Prop} {w w' : World} (h : Keep W w w') (hi : ∀ k, k < w.heap.size -> W k -> W' k) : Keep W' w w' :=
 ⟨h.os, h.tape, h.output, h.size, fun k hk hn => h.block k hk (fun hw => hn (hi k hk hw))⟩
theorem Keep.drew (W : Nat -> Prop) (w : World) : Keep W w w.drew := ⟨rfl, rfl, rfl, Nat.le_refl _, fun _ _ _ => rfl⟩
theorem Keep.alloc (W : Nat -> Prop) (w : World) (o : Obj) : Keep W w (w.alloc o) :=
 ⟨rfl, rfl, rfl, by simp, fun k hk _ => Below.heap_alloc w o k hk⟩
theorem Keep.below {w w' : World} (h : Keep (fun _ => False) w w') : Below w.heap.size w w' := ⟨h.os, h.tape, h.output, h.size, fun k hk => h.block k hk (fun f => f)⟩
/-- What kind of block it is, where it is no row of rows. -/
theorem BRel.notMat {ρ : List Place} {p : Place} {cs : Cells} {e : TypeId} {r : Kind} {w : World} (h : BRel ρ p ⟨cs, e, r⟩ w) (hd : cs.isDead = false) (hm : ∀ kd et l, cs ≠ .mat kd et l) : r.isMat = false := by
 rcases h with h | ⟨_, h, _⟩ | ⟨_, cur, _, _, h, _⟩ | ⟨_, h, _⟩ | ⟨_, h, _⟩ | ⟨_, kd, et, l, h, _⟩
 ·rw [hd] at h; cases h
 ·cases r <;> first | rfl | cases h
 ·cases r <;> first | rfl | exact h.elim | (simp only at *; simp_all [Kind.isArg])
 ·exact h.2
 ·simp only at h; subst h; rfl
 ·exact absurd h (hm kd et l)
theorem BRel.lt {ρ : List Place} {p : Place} {blk : Blk} {w : World} (h : BRel ρ p blk w) (hd : blk.cs.isDead = false) (hg : p.ghost = false) {k : Nat} (hk : k ∈ blk.foot p) : k < w.heap.size := by
 have one : blk.kind.isMat = false -> p.blk < w.heap.size -> k < w.heap.size := fun hm hb => by
  rw [foot_one hm, List.mem_singleton] at hk
  subst hk; exact hb
 rcases h with h | ⟨h, _⟩ | ⟨_, cur, hc, _, hs, _, ha⟩ | ⟨_, ha, cur, _, _, hc, _⟩ | ⟨_, ha, _, l, o, _, hc, _⟩ | ⟨hm, kd, et, l, hl, hlen, hsub, hp⟩
 ·rw [hd] at h; cases h
 ·rw [hg] at h; cases h
 ·refine one ?_ (Array.getElem?_eq_some_iff.1 hc).1
  cases hk' : blk.kind <;> rw [hk'] at hs ha <;> first | rfl | exact hs.elim | cases ha
 ·exact one ha.2 (Array.getElem?_eq_some_iff.1 hc).1
 ·exact one (by rw [ha]; rfl) (Array.getElem?_eq_some_iff.1 hc).1
 ·rw [foot_mat hm] at hk
  rcases List.mem_cons.1 hk with rfl | hk
  ·rcases hp with ⟨h, _⟩ | ⟨_, cur, _, _, hc, _⟩
   ·rw [hg] at h; cases h
   ·exact (Array.getElem?_eq_some_iff.1 hc).1
  ·obtain ⟨i, s, h1, h2, rfl⟩ := mem_subFoot.1 hk
   rcases hsub i s h1 with ⟨h, _⟩ | ⟨_, cur, _, _, hc, _⟩
   ·rw [h2] at h; cases h
   ·exact (Array.getElem?_eq_some_iff.1 hc).1

/-- What the blocks of a memory are is kept if these blocks are. -/
theorem SubOf.keep {own : Bool} {kd : IntKind} {et : TypeId} {s : Sub} {row : List Int} {w w' : World} (h : SubOf own kd et s row w) (hk : s.ghost = false -> w'.heap[s.blk]? = w.heap[s.blk]?) : SubOf own kd et s row w' := by
 rcases h with h | ⟨hg, cur, e, fz, hc, hr⟩
 ·exact .inl h
 ·exact .inr ⟨hg, cur, e, fz, (hk hg).trans hc, hr⟩
theorem MatOf.keep {p : Place} {blk : Blk} {w w' : World} (h : MatOf p blk w) (hk : p.ghost = false -> ∀ k, k ∈ blk.foot p -> w'.heap[k]? = w.heap[k]?) : MatOf p blk w' := by
 obtain ⟨hm, kd, et, l, hl, hlen, hsub, hp⟩ := h
 rw [foot_mat hm] at hk
 refine ⟨hm, kd, et, l, hl, hlen, fun i s hs => ?_, ?_⟩
 ·rcases hp with ⟨hg, rfl, _⟩ | ⟨hg, _⟩
  ·have := (List.getElem?_eq_some_iff.1 hs).1
   rw [hlen] at this
   simp at this
  ·exact (hsub i s hs).keep fun hsg => hk hg _ (List.mem_cons_of_mem _ (mem_subFoot.2 ⟨i, s, hs, hsg, rfl⟩))
 ·rcases hp with h | ⟨hg, cur, e, fz, hc, hr⟩
  ·exact .inl h
  ·exact .inr ⟨hg, cur, e, fz, (hk hg _ List.mem_cons_self).trans hc, hr⟩
theorem BRel.keep {ρ : List Place} {p : Place} {blk : Blk} {w w' : World} (h : BRel ρ p blk w) (hk : blk.cs.isDead = false -> p.ghost = false -> ∀ k, k ∈ blk.foot p -> w'.heap[k]? = w.heap[k]?) : BRel ρ p blk w' := by
 rcases h with h | ⟨h1, h2, h3⟩ | ⟨h1, cur, hc, hr⟩ | ⟨h1, ha, cur, e, fz, hc, hr⟩ | ⟨h1, ha, h0, l, o, hl, hc, hr⟩ | h
 ·exact .inl h
 ·exact .inr (.inl ⟨h1, h2, h3⟩)
 ·by_cases hd : blk.cs.isDead = true
  ·exact .inl hd
  ·exact .inr (.inr (.inl ⟨h1, cur, (hk (by simpa using hd) h1 _ (foot_head _ _)).trans hc, hr⟩))
 ·by_cases hd : blk.cs.isDead = true
  ·exact .inl hd
  ·exact .inr (.inr (.inr (.inl ⟨h1, ha, cur, e, fz, (hk (by simpa using hd) h1 _ (foot_head _ _)).trans hc, hr⟩)))
 ·by_cases hd : blk.cs.isDead = true
  ·exact .inl hd
  ·exact .inr (.inr (.inr (.inr (.inl ⟨h1, ha, h0, l, o, hl, (hk (by simpa using hd) h1 _ (foot_head _ _)).trans hc, hr⟩))))
 ·by_cases hd : blk.cs.isDead = true
  ·exact .inl hd
  ·exact .inr (.inr (.inr (.inr (.inr (h.keep fun hg => hk (by simpa using hd) hg)))))

theorem BRel.mono {ρ ρ' : List Place} {p : Place} {blk : Blk} {w : World} (hp : ρ <+: ρ') (h : BRel ρ p blk w) : BRel ρ' p blk w := by
 rcases h with h | ⟨h1, h2, h3⟩ | ⟨h1, cur, hc, hr, hs⟩ | ⟨h1, ha, cur, e, fz, hc, hr⟩ | h
 ·exact .inl h
 ·exact .inr (.inl ⟨h1, h2, h3⟩)
 ·exact .inr (.inr (.inl ⟨h1, cur, hc, hr.mono hp, hs⟩))
 ·exact .inr (.inr (.inr (.inl ⟨h1, ha, cur, e, fz, hc, hr.1.mono hp, hr.2⟩)))
 ·exact .inr (.inr (.inr (.inr h)))

/-- Which blocks of the world a memory speaks of, of those that are so. -/
def NamesP (Q : Blk -> Prop) (ρ : List Place) (m : List Blk) (k : Nat) : Prop := ∃ (b : Nat) (blk : Blk) (p : Place), m[b]? = some blk /\ ρ[b]? = some p /\ blk.cs.isDead = false /\ p.ghost = false /\ Q blk /\ k ∈ blk.foot p
/-- All of them. -/
abbrev Reads := NamesP fun _ => True
/-- Those that may be written. -/
abbrev Names := NamesP fun b => b.kind.isArg = false
theorem NamesP.all {Q : Blk -> Prop} {ρ : List Place} {m : List Blk} {k : Nat} (h : NamesP Q ρ m k) : Reads ρ m k := by
 obtain ⟨b, blk, p, h1, h2, h3, h4, _, h5⟩ := h
 exact ⟨b, blk, p, h1, h2, h3, h4, trivial, h5⟩

theorem MRel.keep {ρ : List Place} {m : List Blk} {w w' : World} (h : MRel ρ m w) (hk : ∀ k, Reads ρ m k -> w'.heap[k]? = w.heap[k]?) : MRel ρ m w' :=
 ⟨h.len, fun b blk p hb hp => (h.blks b blk p hb hp).keep fun hd hg _ hkf => hk _ ⟨b, blk, p, hb, hp, hd, hg, trivial, hkf⟩, h.inj⟩

theorem MRel.ltP {Q : Blk -> Prop} {ρ : List Place} {m : List Blk} {w : World} (h : MRel ρ m w) {k : Nat} (hk : NamesP Q ρ m k) : k < w.heap.size := by
 obtain ⟨b, blk, p, hb, hp, hd, hg, _, hkf⟩ := hk
 exact (h.blks b blk p hb hp).lt hd hg hkf
theorem MRel.lt {ρ : List Place} {m : List Blk} {w : World} (h : MRel ρ m w) {k : Nat} (hk : Reads ρ m k) : k < w.heap.size := h.ltP hk

/-- A new block. -/
theorem MRel.add {ρ : List Place} {m : List Blk} {w w' : World} (h : MRel ρ m w) (hk : ∀ k, Reads ρ m k -> w'.heap[k]? = w.heap[k]?) {p : Place} {blk : Blk} (hp : p.ghost = false -> ∀ k, k ∈ blk.foot p -> ¬ Reads ρ m k) (hB : BRel (ρ ++ [p]) p blk w') :
  MRel (ρ ++ [p]) (m ++ [blk]) w' := by
 have hpre : ρ <+: ρ ++ [p] := List.prefix_append _ _
 have hw' : MRel ρ m w' := h.keep hk
 refine ⟨by simp [h.len], fun b blk' q hb hq => ?_, fun b b' blk1 blk2 q q' hb hb' hq hq' hne hd hd' hg hg' ha => ?_⟩
 ·by_cases hlt : b < m.length
  ·rw [List.getElem?_append_left hlt] at hb
   rw [List.getElem?_append_left (by rw [h.len]; exact hlt)] at hq
   exact (hw'.blks b blk' q hb hq).mono hpre
  ·have hbl : b = m.length := by
    have := (List.getElem?_eq_some_iff.1 hb).1
    simp at this; omega
   subst hbl
   rw [List.getElem?_concat_length] at hb
   rw [<- h.len, List.getElem?_concat_length] at hq
   injection hb with hb; injection hq with hq
   subst hb; subst hq
   exact hB
 ·have key : ∀ (c : Nat) (blk₁ : Blk) (p₁ : Place), (m ++ [blk])[c]? = some blk₁ -> (ρ ++ [p])[c]? = some p₁ -> blk₁.cs.isDead = false -> p₁.ghost = false ->
    (c < m.length /\ m[c]? = some blk₁ /\ ρ[c]? = some p₁ /\ ∀ k, k ∈ blk₁.foot p₁ -> Reads ρ m k) \/ (c = m.length /\ p₁ = p /\ blk₁ = blk) := by
   intro c blk₁ p₁ hc hpc hdc hgc
   by_cases hlt : c < m.length
   ·rw [List.getElem?_append_left hlt] at hc
    rw [List.getElem?_append_left (by rw [h.len]; exact hlt)] at hpc
    exact .inl ⟨hlt, hc, hpc, fun k hk => ⟨c, blk₁, p₁, hc, hpc, hdc, hgc, trivial, hk⟩⟩
   ·have hcl : c = m.length := by
     have := (List.getElem?_eq_some_iff.1 hc).1
     simp at this; omega
    subst hcl
    rw [List.getElem?_concat_length] at hc
    rw [<- h.len, List.getElem?_concat_length] at hpc
    injection hpc with hpc
    injection hc with hc
    exact .inr ⟨rfl, hpc.symm, hc.symm⟩
  rcases key b blk1 q hb hq hd hg with ⟨_, h1, h2, h3⟩ | ⟨h1, h2, h4⟩ <;> rcases key b' blk2 q' hb' hq' hd' hg' with ⟨_, k1, k2, k3⟩ | ⟨k1, k2, k4⟩
  ·exact h.inj b b' blk1 blk2 q q' h1 k1 h2 k2 hne hd hd' hg hg' ha
  ·subst k2; subst k4
   exact fun k e f => hp hg' k f (h3 k e)
  ·subst h2; subst h4
   exact fun k e f => hp hg k e (k3 k f)
  ·omega
theorem MRel.new {ρ : List Place} {m : List Blk} {w : World} (h : MRel ρ m w) {vs : List V} {xs : List Value} (hx : RepL ρ vs xs) (e : TypeId) :
  MRel (ρ ++ [⟨w.heap.size, 0, false, 0, none, []⟩]) (m ++ [⟨.vals vs, e, .box⟩]) (w.alloc (.cells xs.toArray e)) := by
 refine h.add (fun k hk => Below.heap_alloc w _ k (h.lt hk)) (fun _ k hk hn => by have := h.lt hn; simp [Blk.foot] at hk; omega) (.inr (.inr (.inl ⟨rfl, xs, heap_alloc_new w _, ?_, ?_, rfl, rfl⟩)))
 ·simp only [Cells.toVs]
  rw [List.take_of_length_le (by rw [hx.length]; exact Nat.le_refl _)]
  exact hx.mono (List.prefix_append _ _)
 ·simp [Cells.toVs, hx.length]

/-- Cells of a block of values. -/
theorem MRel.cell {ρ : List Place} {m : List Blk} {w : World} (h : MRel ρ m w) {b : Nat} {p : Place} {cs : Cells} {e : TypeId} {r : Kind} (hm : m[b]? = some ⟨cs, e, r⟩) (hp : ρ[b]? = some p) {i : Nat} {v : V} (hv : cs.toVs[i]? = some v) :
  ∃ x, w.cell? (addrOf p i) = some x /\ Rep ρ v x /\ (r.isArg = false -> w.frozen? (addrOf p i) = false) := by
 rcases h.blks b _ p hm hp with hd | ⟨_, _, h3, _⟩ | ⟨_, cur, hc, hr, _, hoff, _⟩ | ⟨_, ha, cur, e', fz, hc, hr, _⟩ | ⟨_, _, _, l, _, hl, _⟩ | ⟨_, _, _, l, hl, _⟩
 ·simp only at hd
  cases cs <;> simp [Cells.isDead] at hd
  simp [Cells.toVs] at hv
 ·simp only at h3; rw [h3] at hv; simp at hv
 ·obtain ⟨x, hx, hrx⟩ := hr.get hv
  have hlt := (List.getElem?_eq_some_iff.1 hv).1
  simp only [List.getElem?_take, hlt, if_true] at hx
  rw [addrOf_own hoff]
  refine ⟨x, ?_, hrx, fun _ => frozen_frz hc (List.getElem?_eq_some_iff.1 hx).1⟩
  rw [cell_of_row w p.blk i cur.toArray e _ hc]
  simpa using hx
 ·obtain ⟨x, hx, hrx⟩ := hr.get hv
  have hlt := (List.getElem?_eq_some_iff.1 hv).1
  simp only [List.getElem?_take, hlt, if_true, List.getElem?_drop] at hx
  refine ⟨x, ?_, hrx, fun h => by have ha := ha.1; simp only at ha; rw [ha] at h; cases h⟩
  unfold addrOf
  rw [cell_of_row w p.blk (p.off + i) cur.toArray e' _ hc]
  simpa using hx
 ·simp only at hl; rw [hl] at hv; simp [Cells.toVs] at hv
 ·simp only at hl; rw [hl] at hv; simp [Cells.toVs] at hv
end Go.Vi
