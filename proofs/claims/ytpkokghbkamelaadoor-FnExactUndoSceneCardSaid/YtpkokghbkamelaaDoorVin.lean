/- Regions whose order is open and that call only what looks: one order of these for all. -/
import Derived.Test.YtpkokghbkamelaaDoorVic
namespace Go.Vi
open Go.RowKit
section
variable {P : Program} {Ω : FuncId -> VSpec} {Ωq : FuncId -> Option FSpec}
/-- A condition that comes to one value. -/
def One {α : Type} (φ : (α -> Prop) -> Prop) : Prop := ∀ k, φ k -> ∃ v, k v /\ ∀ k', k' v -> φ k'
theorem One.val {α : Type} (v : α) : One fun k => k v := fun _ h => ⟨v, h, fun _ h' => h'⟩
theorem One.no {α : Type} : One fun _ : α -> Prop => False := fun _ h => h.elim
theorem One.at {α : Type} {p : Prop} {φ : (α -> Prop) -> Prop} (h : One φ) : One fun k => p /\ φ k := by
 intro k ⟨hp, hk⟩
 obtain ⟨v, h1, h2⟩ := h k hk
 exact ⟨v, h1, fun k' h' => ⟨hp, h2 k' h'⟩⟩
theorem One.ite {α : Type} {c : Prop} [Decidable c] {φ ψ : (α -> Prop) -> Prop} (h : One φ) (g : One ψ) : One fun k => if c then φ k else ψ k := by
 by_cases hc : c
 ·simpa only [hc, if_true] using h
 ·simpa only [hc, if_false] using g
theorem One.map {α β : Type} {φ : (α -> Prop) -> Prop} (h : One φ) (f : α -> β) : One fun k => φ fun a => k (f a) := by
 intro k hk
 obtain ⟨v, h1, h2⟩ := h _ hk
 exact ⟨f v, h1, fun k' h' => h2 _ h'⟩
theorem One.bools (t : Bool) (a b : V) : One fun k => (t = true -> k a) /\ (t = false -> k b) := by
 cases t with
 | true =>
  intro k h
  exact ⟨a, h.1 rfl, fun k' h' => ⟨fun _ => h', fun h => by cases h⟩⟩
 | false =>
  intro k h
  exact ⟨b, h.2 rfl, fun k' h' => ⟨(fun h => by cases h), fun _ => h'⟩⟩
theorem One.withSize {α : Type} {φ : Nat -> (α -> Prop) -> Prop} (h : ∀ n, One (φ n)) (n : Nat) : One fun k => withSize n fun m => φ m k := by
 intro k hk
 obtain ⟨v, h1, h2⟩ := h n k (withSize_spec hk)
 refine ⟨v, h1, fun k' h' => ?_⟩
 have := h2 k' h'
 unfold Go.Vi.withSize at hk ⊢
 split at hk <;> first | exact this | exact hk.elim
theorem lit16_eq (n : Nat) (k : Nat -> Prop) : lit16 n k = k n := by
 unfold lit16
 split <;> rfl
theorem vint_one (op : BinOp) (kd : IntKind) (a b : Int) : One (vint op kd a b) := by
 unfold vint
 cases op <;> first | exact One.no | exact One.val _ | exact (One.val _).at | (cases kd <;> first | exact One.no | exact (One.val _).at)
theorem vstr_one (op : BinOp) (a b : List UInt8) : One (vstr op a b) := by
 unfold vstr
 cases op <;> first | exact One.no | exact One.val _ | exact (One.val _).at
theorem vboolOp_one (op : BinOp) (a b : Bool) : One (vboolOp op a b) := by
 unfold vboolOp
 cases op <;> first | exact One.no | exact One.val _
theorem vaggEq_one (op : BinOp) (t : TypeId) (cs ds : List V) : One (vaggEq P op t cs ds) := by
 unfold vaggEq
 cases P.eqGuardType P.depth t <;> try exact One.no
 cases P.stoodInHeld t <;> try exact One.no
 cases P.underlying t with
 | none => exact One.no
 | some d =>
  cases d <;> try exact One.no
  ·rename_i n e
   try dsimp only
   cases P.info? e with
   | none => exact One.no
   | some i =>
    cases aggT P e with
    | none => exact One.no
    | some b =>
     cases b with
     | true => exact One.no
     | false =>
      try dsimp only
      cases Nat.beq i.size 1 <;> cases eqIx P e cs ds (List.range n) <;> first | exact One.no | skip
      cases op <;> first | exact One.no | exact One.val _
  ·rename_i fs
   try dsimp only
   cases eqFieldsV P cs ds fs.toList with
   | none => exact One.no
   | some r => cases op <;> first | exact One.no | exact One.val _
theorem varrEq_one (op : BinOp) (t : TypeId) (n m : Nat) (l l' : List UInt8) : One (varrEq P op t n l m l') := by
 unfold varrEq
 cases P.eqGuardType P.depth t <;> try exact One.no
 cases bigBytes P t with
 | none => exact One.no
 | some c =>
  cases P.underlying t with
  | none => exact One.no
  | some d =>
   cases d <;> try exact One.no
   rename_i e
   try dsimp only
   cases P.info? e with
   | none => exact One.no
   | some i => exact One.ite (by cases op <;> first | exact One.no | exact One.val _) One.no
theorem vnil_one (op : BinOp) (t : TypeId) (x y : V) : One (vnil P op t x y) := by
 unfold vnil
 cases isSliceT P t <;> try exact One.no
 cases isNil0 y <;> try exact One.no
 cases lenOf? x with
 | none => exact One.no
 | some n => cases op <;> first | exact One.no | exact (One.val _).at
theorem vshl_one (kd : IntKind) (a b : Int) : One (vshl kd a b) := by
 unfold vshl
 cases kd <;> first | exact One.no | exact (One.val _).at
theorem vshr_one (kd : IntKind) (a b : Int) : One (vshr kd a b) := by
 unfold vshr
 cases kd <;> first | exact One.no | exact (One.val _).at
theorem vbin_one (op : BinOp) (t : TypeId) (x y : V) : One (vbin P op t x y) := by
 have hb : One fun k : V -> Prop => match asB x, asB y with
   | some p, some q => (match isBoolT P t with | true => vboolOp op p q k | false => False)
   | _, _ => vnil P op t x y k := by
  cases asB x with
  | none => exact vnil_one op t x y
  | some p =>
   cases asB y with
   | none => exact vnil_one op t x y
   | some q =>
    dsimp only
    cases isBoolT P t with
    | true => exact vboolOp_one op p q
    | false => exact One.no
 unfold vbin
 cases x with
 | arr n l => cases y <;> first | exact varrEq_one op t _ _ _ _ | exact hb
 | int ka a =>
  cases y <;> first | exact hb | skip
  cases op <;> first | exact One.no | exact vshr_one _ _ _ | exact vshl_one _ _ _ | exact One.ite (vint_one _ _ _ _) One.no
 | str a => cases y <;> first | exact vstr_one op _ _ | exact hb
 | agg cs => cases y <;> first | exact vaggEq_one op t _ _ | exact hb
 | _ => exact hb
theorem vmixAt_one (a : List V) (n : Nat) (z : List V) (o : Nat) : One (vmixAt a n z o) := by
 unfold vmixAt
 cases a[o]? with
 | some v => exact One.val v
 | none =>
  cases Nat.ble (a.length + n) o with
  | false => exact One.no
  | true =>
   cases z[o - (a.length + n)]? with
   | some v => exact One.val v
   | none => exact One.no
theorem vcell_one (cs : Cells) (o : Nat) : One (vcell cs o) := by
 unfold vcell
 cases cs with
 | mix a n l z => exact vmixAt_one a n z o
 | mixi a n l z => exact vmixAt_one a n z o
 | vals vs =>
  cases h : vs[o]? with
  | some v => simp only [h]; exact One.val v
  | none => simp only [h]; exact One.no
 | _ => first | exact (One.val _).at | exact One.no
theorem vcellB_one (b : Nat) (cs : Cells) (r : Kind) (o : Nat) : One (vcellB b cs r o) := by
 unfold vcellB
 cases cs with
 | mat k e l =>
  dsimp only
  cases r.isMat with
  | true => exact (One.val _).at
  | false => exact One.no
 | _ => exact vcell_one _ o
theorem vload_one (mem : List Blk) (t : TypeId) (b o : Nat) : One (vload P mem t b o) := by
 unfold vload
 cases mem[b]? with
 | none => exact One.no
 | some blk =>
  cases aggT P t with
  | none => exact One.no
  | some g =>
   cases g with
   | false =>
    obtain ⟨cs, e, kd⟩ := blk
    cases cs with
    | recs sh l =>
     try dsimp only
     unfold vrec
     cases P.underlying t with
     | none => exact One.no
     | some d => cases d <;> first | exact One.no | exact (One.val _).at
    | _ => exact vcellB_one b _ kd o
   | true =>
    obtain ⟨cs, e, kd⟩ := blk
    cases cs with
    | vals vs =>
     cases P.info? t with
     | none => exact One.no
     | some i => exact One.ite (One.val _) One.no
    | ints kd l =>
     cases P.info? t with
     | none => exact One.no
     | some i => simp only [lit16_eq]; exact (One.val _).at
    | recs sh l =>
     cases P.info? t with
     | none => exact One.no
     | some i => simp only [lit16_eq]; exact One.ite (One.val _).at One.no
    | mixi a n l z =>
     cases P.info? t with
     | none => exact One.no
     | some i =>
      dsimp only
      cases Nat.ble (a.length + n) o with
      | true => exact One.ite (One.val _) One.no
      | false => exact One.ite (One.val _) One.no
    | mix a n l z =>
     cases P.info? t with
     | none => exact One.no
     | some i =>
      cases bigBytes P t with
      | some c => dsimp only; exact One.ite (One.val _) One.no
      | none =>
       dsimp only
       cases Nat.ble (a.length + n) o with
       | true => exact One.ite (One.val _) One.no
       | false => exact One.ite (One.val _) One.no
    | _ => exact One.no
theorem vloadElt_one (mem : List Blk) (t : TypeId) (b o n j : Nat) : One (vloadElt P mem t b o n j) := by
 unfold vloadElt
 cases mem[b]? with
 | none => exact One.no
 | some blk =>
  obtain ⟨cs, e, kd⟩ := blk
  cases cs <;> try exact One.no
  all_goals
   try dsimp only
   cases aggT P t with
   | none => exact One.no
   | some g => cases g with
    | true => exact One.no
    | false => exact One.ite (One.val _) One.no
theorem vloadInr_one (mem : List Blk) (t : TypeId) (b i j : Nat) : One (vloadInr P mem t b i j) := by
 unfold vloadInr
 cases mem[b]? with
 | none => exact One.no
 | some blk =>
  obtain ⟨cs, e, kd⟩ := blk
  cases cs <;> try exact One.no
  try dsimp only
  cases aggT P t with
  | none => exact One.no
  | some g => cases g with
   | true => exact One.no
   | false =>
    cases kd.isMat with
    | true => exact (One.val _).at
    | false => exact One.no
theorem vfieldAddr_one (s : TypeId) (b o f : Nat) : One (vfieldAddr P s b o f) := by
 unfold vfieldAddr
 cases P.underlying s with
 | none => exact One.no
 | some d =>
  cases d <;> try exact One.no
  rename_i fs
  try dsimp only
  cases fs[f]? with
  | none => exact One.no
  | some fl =>
   try dsimp only
   cases P.info? fl.type with
   | none => exact One.no
   | some i => simp only [lit16_eq]; exact One.ite One.no (One.val _)
theorem vpart_one (t : TypeId) (cs : List V) (off : Nat) : One (vpart P t cs off) := by
 unfold vpart
 cases aggT P t with
 | none => exact One.no
 | some g =>
  cases g with
  | false =>
   cases cs[off]? with
   | some v => exact One.val v
   | none => exact One.no
  | true =>
   cases P.info? t with
   | none => exact One.no
   | some i => exact One.val _
theorem vfield_one (t : TypeId) (cs : List V) (f : Nat) : One (vfield P t cs f) := by
 unfold vfield
 cases P.underlying t with
 | none => exact One.no
 | some d =>
  cases d <;> try exact One.no
  rename_i fs
  try dsimp only
  cases fs[f]? with
  | none => exact One.no
  | some fl => exact vpart_one _ _ _
theorem vconv_one (src dst : TypeId) (x : V) : One (vconv P src dst x) := by
 unfold vconv
 cases x <;> try exact One.no
 ·cases P.underlying src with
  | none => exact One.no
  | some d => cases P.underlying dst with
   | none => exact One.no
   | some e => cases e <;> first | exact One.no | exact One.val _
 ·cases P.underlying src with
  | none => exact One.no
  | some d => cases P.underlying dst with
   | none => exact One.no
   | some e => cases e <;> first | exact One.no | exact One.val _
theorem vslice_one (t : TypeId) (s : List UInt8) (lo hi : Option V) : One (vslice P t s lo hi) := by
 unfold vslice
 cases isStrT P t with
 | false => exact One.no
 | true =>
  cases lo with
  | none =>
   cases hi with
   | none => exact One.val _
   | some h => cases h <;> first | exact One.no | exact (One.val _).at
  | some l =>
   cases hi with
   | none => cases l <;> first | exact One.no | exact (One.val _).at
   | some h => cases l <;> cases h <;> first | exact One.no | exact (One.val _).at
theorem vpick_one (c a b : V) : One (vpick c a b) := by
 unfold vpick
 cases c <;> try exact One.no
 ·exact One.bools _ a b
 ·rename_i t
  cases t with
  | true => exact One.val a
  | false => exact One.val b
theorem vun_one (op : UnOp) (x : V) : One (vun op x) := by
 unfold vun
 cases op <;> cases x <;> first | exact One.no | exact One.val _
theorem vbuild_one (t : TypeId) (parts : List (Nat × V)) : One (vbuild P t parts) := by
 unfold vbuild
 cases P.info? t with
 | none => exact One.no
 | some i =>
  dsimp only
  cases i.zero with
  | none => exact One.no
  | some z =>
   dsimp only
   cases P.underlying t with
   | none => exact One.no
   | some d =>
    cases d <;> try exact One.no
    ·rename_i len e
     dsimp only
     cases P.info? e with
     | none => exact One.no
     | some ie =>
      dsimp only
      cases fillV (arrPlaces ie.size 0 len) parts (cellsV z.cells.toList) with
      | none => exact One.no
      | some cs => exact One.val _
    ·rename_i fs
     dsimp only
     cases fieldPlaces P fs.toList with
     | none => exact One.no
     | some places =>
      dsimp only
      cases fillV places parts (cellsV z.cells.toList) with
      | none => exact One.no
      | some cs => exact One.val _
theorem vfunc_one (fn : Fn) (first captured : List V) : One (vfunc fn first captured) := by
 unfold vfunc
 cases fn <;> try exact One.no
 try dsimp only
 cases first with
 | cons _ _ => exact One.no
 | nil =>
  cases ptrNames captured with
  | none => exact One.no
  | some ns => exact One.val _
theorem vlen_one (st : St) (c : Call) : One (vlen P st c) := by
 have hmm : ∀ (f : IntKind -> Int -> Int -> V), One fun k => match evs st c.args.toList with | [.int ka a, .int _ b] => k (f ka a b) | _ => False := by
  intro f
  cases evs st c.args.toList with
  | nil => exact One.no
  | cons x r =>
   cases r with
   | nil => cases x <;> exact One.no
   | cons y r =>
    cases r with
    | nil => cases x <;> try exact One.no
             cases y <;> first | exact One.no | exact One.val _
    | cons _ _ => cases x <;> try exact One.no
                  cases y <;> exact One.no
 unfold vlen
 cases c.callee <;> try exact One.no
 rename_i b
 cases b <;> try exact One.no
 ·dsimp only
  cases c.args.toList with
  | nil => exact One.no
  | cons x r =>
   cases r with
   | cons _ _ => exact One.no
   | nil =>
    cases c.argTypes.toList with
    | nil => exact One.no
    | cons t r =>
     cases r with
     | cons _ _ => exact One.no
     | nil =>
      dsimp only
      cases ev st x <;> try exact One.no
      ·cases isStrT P t with | true => exact One.val _ | false => exact One.no
      all_goals first
       | (cases isSliceT P t with | true => exact One.val _ | false => exact One.no)
       | (rename_i y; dsimp only; cases isNil0 (.raw y) <;> cases isSliceT P t <;> first | exact One.no | exact One.val _)
 ·exact hmm fun ka a b => .int ka (if a < b then b else a)
 ·exact hmm fun ka a b => .int ka (if b < a then b else a)
theorem vindexAddr_one (t : TypeId) (x i : V) : One (vindexAddr P t x i) := by
 unfold vindexAddr
 cases x <;> try exact One.no
 all_goals (cases i <;> try exact One.no)
 ·cases P.underlying t with
  | none => exact One.no
  | some d =>
   cases d <;> try exact One.no
   rename_i len e
   try dsimp only
   cases P.info? e with
   | none => exact One.no
   | some inf =>
    refine One.ite ?_ One.no
    have rest : ∀ (b o : Nat) (j : Int), One fun k : V -> Prop => match bigInts P t with
      | some _ => At (0 <= j /\ j < len) /\ k (.elt b o len j.toNat)
      | none => At (0 <= j /\ j < len) /\ k (.ptr b (o + j.toNat)) := fun b o j => by
     cases bigInts P t with
     | none => exact (One.val _).at
     | some _ => exact (One.val _).at
    cases Nat.ble 17 len with
    | false => exact rest _ _ _
    | true =>
     cases bigBytes P t with
     | none => exact rest _ _ _
     | some _ => exact (One.val _).at
 ·cases P.underlying t with
  | none => exact One.no
  | some d =>
   cases d <;> try exact One.no
   rename_i e
   try dsimp only
   cases P.info? e with
   | none => exact One.no
   | some inf => exact One.ite (One.val _).at (One.withSize (φ := fun sz (k : V -> Prop) => At _ /\ k (V.ptr _ (_ * sz))) (fun sz => (One.val _).at) inf.size)
 ·cases P.underlying t with
  | none => exact One.no
  | some d =>
   cases d <;> try exact One.no
   rename_i e
   try dsimp only
   cases P.info? e with
   | none => exact One.no
   | some inf => exact One.ite (One.val _).at One.no
 ·cases P.underlying t with
  | none => exact One.no
  | some d =>
   cases d <;> try exact One.no
   rename_i e
   try dsimp only
   cases P.info? e with
   | none => exact One.no
   | some inf => exact One.ite (One.at (by split <;> exact One.val _)) One.no
theorem vindexArr_one (t : TypeId) (cs : List V) (n : Int) : One (vindexArr P t cs n) := by
 unfold vindexArr
 cases P.underlying t with
 | none => exact One.no
 | some d =>
  cases d <;> try exact One.no
  rename_i len e
  try dsimp only
  cases P.info? e with
  | none => exact One.no
  | some i =>
   cases aggT P e with
   | none => exact One.no
   | some g =>
    cases g with
    | true => exact One.no
    | false =>
     refine One.ite (One.at ?_) One.no
     cases textsOf cs with
     | some l => exact One.ite (One.val _) One.no
     | none =>
      dsimp only
      cases cs[n.toNat]? with
      | none => exact One.no
      | some v => exact One.val v
theorem vtextR_one (mem : List Blk) (b n : Nat) : One (vtextR mem b n) := by
 unfold vtextR
 cases mem[b]? with
 | none => exact One.no
 | some blk =>
  obtain ⟨cs, e, kd⟩ := blk
  cases cs <;> try exact One.no
  rename_i q l
  try dsimp only
  cases kd.isArg with
  | true => exact One.no
  | false =>
   dsimp only
   cases decide (q = .i32) with
   | true => exact (One.val _).at
   | false => exact One.no
theorem vtext_one (mem : List Blk) (src dst : TypeId) (b n : Nat) : One (vtext P mem src dst b n) := by
 unfold vtext
 cases P.underlying src with
 | none => exact One.no
 | some d =>
  cases d <;> try exact One.no
  rename_i e
  try dsimp only
  cases P.underlying dst with
  | none => exact One.no
  | some d2 =>
   cases d2 <;> try exact One.no
   try dsimp only
   cases P.underlying e with
   | none => exact One.no
   | some d3 =>
    cases d3 <;> try exact One.no
    rename_i kd
    try dsimp only
    cases kd <;> first | exact One.no | exact vtextR_one mem b n | skip
    try dsimp only
    cases mem[b]? with
    | none => exact One.no
    | some blk =>
     obtain ⟨cs, e, kd⟩ := blk
     cases cs <;> try exact One.no
     try dsimp only
     try dsimp only
     cases kd.isArg with
     | true => exact One.no
     | false => exact (One.val _).at
theorem vtextSub_one (mem : List Blk) (src dst : TypeId) (b o n m : Nat) : One (vtextSub P mem src dst b o n m) := by
 unfold vtextSub
 cases P.underlying src with
 | none => exact One.no
 | some d =>
  cases d <;> try exact One.no
  rename_i e
  try dsimp only
  cases P.underlying dst with
  | none => exact One.no
  | some d2 =>
   cases d2 <;> try exact One.no
   try dsimp only
   cases P.underlying e with
   | none => exact One.no
   | some d3 =>
    cases d3 <;> try exact One.no
    rename_i kd
    try dsimp only
    cases kd <;> try exact One.no
    try dsimp only
    cases mem[b]? with
    | none => exact One.no
    | some blk =>
     obtain ⟨cs, e, kd⟩ := blk
     cases cs <;> try exact One.no
     try dsimp only
     try dsimp only
     cases kd.isArg with
     | true => exact One.no
     | false => exact One.ite (One.val _) One.no
theorem vsliceArr_one (t : TypeId) (b o : Nat) (lo hi : Option V) : One (vsliceArr P t b o lo hi) := by
 unfold vsliceArr
 cases P.underlying t with
 | none => exact One.no
 | some d =>
  cases d <;> try exact One.no
  rename_i n e
  try dsimp only
  cases bigArr P t with
  | none => exact One.no
  | some _ =>
   dsimp only
   cases P.info? e with
   | none => exact One.no
   | some _ =>
    cases lo with
    | some _ => exact One.no
    | none =>
     cases hi with
     | none => exact One.val _
     | some h => cases h <;> first | exact One.no | exact (One.val _).at
theorem vsliceRow_one (mem : List Blk) (t : TypeId) (b n : Nat) (lo hi : Option V) : One (vsliceRow P mem t b n lo hi) := by
 unfold vsliceRow
 cases P.underlying t with
 | none => exact One.no
 | some d =>
  cases d <;> try exact One.no
  rename_i e
  try dsimp only
  cases mem[b]? with
  | none => exact One.no
  | some blk =>
   try dsimp only
   cases P.info? e with
   | none => exact One.no
   | some inf =>
    refine One.withSize (φ := fun sz (k : V -> Prop) => match blk.kind.rowish sz with
     | false => False
     | true => withCs blk.cs fun cs =>
     match lo, hi with
     | none, some (.int _ h) => At (0 <= h /\ h <= n /\ n * sz <= cs.len) /\ k (.view b 0 sz h.toNat none)
     | some (.int _ l), none => At (0 <= l /\ l <= n /\ n * sz <= cs.len) /\ k (.view b l.toNat sz (n - l.toNat) none)
     | some (.int _ l), some (.int _ h) => At (0 <= l /\ l <= h /\ h <= n /\ n * sz <= cs.len) /\ k (.view b l.toNat sz (h.toNat - l.toNat) none)
     | _, _ => False) (fun sz => ?_) inf.size
    cases blk.kind.rowish sz with
    | false => exact One.no
    | true =>
     dsimp only
     simp only [withCs_eq]
     cases lo with
     | none => cases hi with
      | none => exact One.no
      | some h => cases h <;> first | exact One.no | exact (One.val _).at
     | some l => cases hi with
      | none => cases l <;> first | exact One.no | exact (One.val _).at
      | some h => cases l <;> cases h <;> first | exact One.no | exact (One.val _).at
theorem vcut3_one (mem : List Blk) (t : TypeId) (x lo hi mx : V) : One (vcut3 P mem t x lo hi mx) := by
 unfold vcut3
 cases x <;> try exact One.no
 cases lo <;> try exact One.no
 cases hi <;> try exact One.no
 cases mx <;> try exact One.no
 rename_i b n _ l _ h _ m
 cases P.underlying t with
 | none => exact One.no
 | some d =>
  cases d <;> try exact One.no
  rename_i e
  try dsimp only
  cases mem[b]? with
  | none => exact One.no
  | some blk =>
   try dsimp only
   cases P.info? e with
   | none => exact One.no
   | some inf =>
    refine One.withSize (φ := fun sz (k : V -> Prop) => match blk.kind.rowish sz with
     | false => False
     | true => withCs blk.cs fun cs => At (0 <= l /\ l <= h /\ h <= m /\ m <= n /\ n * sz <= cs.len) /\ k (.view b l.toNat sz (h.toNat - l.toNat) (some (m.toNat - l.toNat)))) (fun sz => ?_) inf.size
    cases blk.kind.rowish sz with
    | false => exact One.no
    | true =>
     dsimp only
     simp only [withCs_eq]
     exact (One.val _).at
theorem vval_one (st : St) (op : Op) : One (vval P st op) := by
 unfold vval
 cases op with
 | move x => exact One.val _
 | assign x => exact One.val _
 | pick c a b => exact vpick_one _ _ _
 | binOp o t x y _ => exact vbin_one _ _ _ _
 | unOp o _ x => exact vun_one _ _
 | load t a =>
  cases h : ev st a <;> simp only [h]
  case gp g o =>
   cases findGl st.mem g 0 with
   | none => exact One.no
   | some b => exact vload_one _ _ _ _
  all_goals first | exact One.no | exact vload_one _ _ _ _ | exact vloadElt_one _ _ _ _ _ _ | exact vloadInr_one _ _ _ _ _
 | fieldAddr s x f => cases h : ev st x <;> simp only [h] <;> first | exact One.no | exact vfieldAddr_one _ _ _ _
 | field t x f => cases h : ev st x <;> simp only [h] <;> first | exact One.no | exact vfield_one _ _ _
 | index t x i =>
  cases h : ev st x <;> cases g : ev st i <;> simp only [h, g] <;> first
   | exact One.no
   | exact vindexArr_one _ _ _
   | (cases isStrT P t with | true => exact (One.val _).at | false => exact One.no)
 | extract t i =>
  cases h : ev st t <;> simp only [h] <;> try exact One.no
  rename_i vs
  try dsimp only
  cases vs[i]? with
  | none => exact One.no
  | some v => exact One.val v
 | nilCheck x => cases h : ev st x <;> simp only [h] <;> first | exact One.no | exact One.val _
 | convert src dst x => cases h : ev st x <;> simp only [h] <;> first | exact vtext_one _ _ _ _ _ | exact vtextSub_one _ _ _ _ _ _ _ | exact vconv_one _ _ _
 | indexAddr t x i => exact vindexAddr_one _ _ _
 | slice t x lo hi mx =>
  cases mx with
  | some m =>
   try dsimp only [Option.map_some]
   unfold vcutO
   cases lo with
   | some l =>
    cases hi with
    | none => exact One.no
    | some h => exact vcut3_one _ _ _ _ _ _
   | none =>
    cases hi with
    | none => exact One.no
    | some h =>
     try dsimp only [Option.map_some, Option.map_none]
     cases isConstO (some h) with
     | false => exact vcut3_one _ _ _ _ _ _
     | true =>
     try dsimp only
     unfold vcut
     cases P.underlying t with
     | none => exact One.no
     | some d =>
      cases d <;> try exact One.no
      cases ev st h <;> try exact One.no
      cases ev st m <;> try exact One.no
      rename_i e _ _ _ _
      try dsimp only
      cases P.info? e with
      | none => exact One.no
      | some i =>
       refine One.ite ?_ One.no
       cases isSl (ev st x) with
       | true => exact One.val _
       | false => exact One.no
  | none => cases h : ev st x <;> simp only [h] <;> first | exact One.no | exact vslice_one _ _ _ _ | exact vsliceArr_one _ _ _ _ _ | exact vsliceRow_one _ _ _ _ _ _
 | call c => exact vlen_one _ _
 | build t parts => exact vbuild_one _ _
 | makeFunc fn first captured => exact vfunc_one _ _ _
 | _ => exact One.no
/-! ### the same operands -/
theorem evs_congr {st st2 : St} : ∀ {xs : List Operand}, (∀ x ∈ xs, ev st2 x = ev st x) -> evs st2 xs = evs st xs
 | [], _ => rfl
 | x :: xs, h => by
  simp only [evs]
  rw [h x (by simp), evs_congr (xs := xs) fun y hy => h y (by simp [hy])]
theorem evL_congr {st st2 : St} : ∀ {xs : List Operand}, (∀ x ∈ xs, ev st2 x = ev st x) -> evL st2 xs = evL st xs
 | [], _ => rfl
 | x :: xs, h => by
  simp only [evL]
  rw [h x (by simp), evL_congr (xs := xs) fun y hy => h y (by simp [hy])]
theorem evParts_congr {st st2 : St} : ∀ {l : List (Nat × Operand)}, (∀ x ∈ l.map (·.2), ev st2 x = ev st x) -> evParts st2 l = evParts st l
 | [], _ => rfl
 | (i, x) :: l, h => by
  simp only [evParts]
  rw [h x (by simp), evParts_congr (l := l) fun y hy => h y (by simp only [List.map_cons, List.mem_cons]; exact .inr hy)]
theorem optMap_congr {st st2 : St} {o : Option Operand} (h : ∀ x ∈ o.toList, ev st2 x = ev st x) : o.map (ev st2) = o.map (ev st) := by
 cases o with
 | none => rfl
 | some x => simp only [Option.map_some, h x (by simp)]
theorem vlen_congr {st st2 : St} {c : Call} (h : ∀ x ∈ c.args.toList, ev st2 x = ev st x) : vlen P st2 c = vlen P st c := by
 funext k
 unfold vlen
 cases c.callee <;> try rfl
 rename_i b
 cases b <;> try rfl
 ·dsimp only
  cases hx : c.args.toList with
  | nil => rfl
  | cons x r =>
   cases r with
   | cons _ _ => rfl
   | nil =>
    rw [hx] at h
    cases c.argTypes.toList with
    | nil => rfl
    | cons t r =>
     cases r with
     | cons _ _ => rfl
     | nil =>
      dsimp only
      rw [h x (by simp)]
 ·dsimp only
  rw [evs_congr h]
 ·dsimp only
  rw [evs_congr h]
/-- Of a state an operation asks for its operands, and for the memory. -/
theorem vval_congr {st st2 : St} {op : Op} (hm : st2.mem = st.mem) (he : ∀ x ∈ op.operands.toList, ev st2 x = ev st x) : vval P st2 op = vval P st op := by
 funext k
 cases op with
 | move x => simp only [vval, he x (by simp [Op.operands])]
 | assign x => simp only [vval, he x (by simp [Op.operands])]
 | pick c a b => simp only [vval, he c (by simp [Op.operands]), he a (by simp [Op.operands]), he b (by simp [Op.operands])]
 | binOp o t x y _ => simp only [vval, he x (by simp [Op.operands]), he y (by simp [Op.operands])]
 | unOp o _ x => simp only [vval, he x (by simp [Op.operands])]
 | load t a => simp only [vval, he a (by simp [Op.operands]), hm]
 | fieldAddr s x f => simp only [vval, he x (by simp [Op.operands])]
 | field t x f => simp only [vval, he x (by simp [Op.operands])]
 | index t x i => simp only [vval, he x (by simp [Op.operands]), he i (by simp [Op.operands])]
 | extract t i => simp only [vval, he t (by simp [Op.operands])]
 | nilCheck x => simp only [vval, he x (by simp [Op.operands])]
 | convert src dst x => simp only [vval, he x (by simp [Op.operands]), hm]
 | indexAddr t x i => simp only [vval, he x (by simp [Op.operands]), he i (by simp [Op.operands])]
 | slice t x lo hi mx =>
  have h1 := optMap_congr (o := lo) (st := st) (st2 := st2) fun y hy => he y (by simp only [Op.operands, Array.toList_append, List.mem_append]; simp at hy ⊢; simp [hy])
  have h2 := optMap_congr (o := hi) (st := st) (st2 := st2) fun y hy => he y (by simp only [Op.operands, Array.toList_append, List.mem_append]; simp at hy ⊢; simp [hy])
  have h3 := optMap_congr (o := mx) (st := st) (st2 := st2) fun y hy => he y (by simp only [Op.operands, Array.toList_append, List.mem_append]; simp at hy ⊢; simp [hy])
  simp only [vval, he x (by simp [Op.operands]), h1, h2, h3, hm]
 | call c => simp only [vval, vlen_congr (P := P) (c := c) fun x hx => he x (by simp only [Op.operands, Call.operands, Array.toList_append, List.mem_append]; exact .inr hx)]
 | build t parts => simp only [vval, evParts_congr (l := parts.toList) fun x hx => he x (by simpa [Op.operands] using hx)]
 | makeFunc fn first captured =>
  simp only [vval]
  rw [evs_congr (xs := first.toList) fun x hx => he x (by simp only [Op.operands, Array.toList_append, List.mem_append]; exact .inl hx), evs_congr (xs := captured.toList) fun x hx => he x (by simp only [Op.operands, Array.toList_append, List.mem_append]; exact .inr hx)]
 | _ => rfl
theorem vqop_congr {st st2 : St} {o : Oper} (hm : st2.mem = st.mem) (he : ∀ x ∈ o.op.operands.toList, ev st2 x = ev st x) : vqop P Ωq o st2 = vqop P Ωq o st := by
 funext k
 unfold vqop
 rw [vval_congr (P := P) hm he]
 split
 ·rfl
 ·rfl
 ·rfl
 ·rename_i c hop
  rw [hop] at he
  split
  ·rename_i f hc
   rw [he f (by simp [Op.operands, Call.operands, hc]), evL_congr (xs := c.args.toList) fun x hx => he x (by simp only [Op.operands, Call.operands, Array.toList_append, List.mem_append]; exact .inr hx), hm]
  ·rfl
 ·rfl
/-! ### operations that act and call nothing -/
theorem vstore_noMat {mem : List Blk} {t : TypeId} {b o : Nat} {v : V} {k : List Blk -> Prop} (h : vstore P mem t b o v k) : isMatB mem b = false := by
 unfold vstore at h
 unfold isMatB
 split at h
 ·exact h.elim
 ·rename_i blk hb
  obtain ⟨cs, e, r⟩ := blk
  rw [hb]
  split at h
  ·exact h.elim
  ·cases cs <;> first | rfl | exact h.elim
theorem vopC_op {o : Oper} {st : St} {k : St -> Prop} (h : vopC P o.op st fun p => k (St.put { st with mem := p.1 } o.dst p.2)) : vop P Ω o st k := by
 unfold vopC at h
 unfold vop
 split at h
 ·rename_i e ho; rw [ho]; exact h
 ·rename_i e x ho; rw [ho]; exact h
 ·rename_i t a x ho
  rw [ho]
  dsimp only
  split at h
  ·rename_i b off ha
   rw [ha]
   dsimp only
   rw [vstore_noMat h]
   exact h
  ·rename_i b off n j ha
   rw [ha]
   exact h
  ·exact h.elim
 ·rename_i src dst x ho
  rw [ho]
  try dsimp only
  split at h
  ·rename_i s hs
   try rw [hs]
   split at h
   ·rename_i hb
    try rw [hb]
    exact h
   ·exact h.elim
  ·exact h.elim
 ·rename_i t len parts ho; rw [ho]; exact h
 ·rename_i t l m ho; rw [ho]; exact h
 ·rename_i t r ho; rw [ho]; exact h
 ·rename_i t ho; rw [ho]; exact h
 ·exact h.elim
theorem vopC_congr {st st2 : St} {op : Op} (hm : st2.mem = st.mem) (he : ∀ x ∈ op.operands.toList, ev st2 x = ev st x) : vopC P op st2 = vopC P op st := by
 funext k
 cases op with
 | alloc e => simp only [vopC, hm]
 | box e x => simp only [vopC, hm, he x (by simp [Op.operands])]
 | store t a x => simp only [vopC, hm, he a (by simp [Op.operands]), he x (by simp [Op.operands])]
 | convert src dst x => simp only [vopC, hm, he x (by simp [Op.operands])]
 | buildSlice t len parts =>
  simp only [vopC, hm]
  rw [evL_congr (xs := parts.toList.map (·.2)) fun x hx => he x (by simpa [Op.operands] using hx), evParts_congr (l := parts.toList) fun x hx => he x (by simpa [Op.operands] using hx)]
 | makeSlice t l m => simp only [vopC, hm, he l (by simp [Op.operands]), he m (by simp [Op.operands])]
 | makeMap t r =>
  cases r with
  | none => simp only [vopC, hm]
  | some r => simp only [vopC, hm, he r (by simp [Op.operands])]
 | _ => rfl
theorem smallN_eq (f n : Nat) (k : Nat -> Prop) : smallN f n k = k n := by
 have h0 : smallN 0 n k = k n := by unfold smallN; rfl
 cases f with
 | zero => exact h0
 | succ f =>
  unfold smallN
  cases h : Nat.beq n 81 with
  | true => rw [Nat.eq_of_beq_eq_true h]
  | false => exact h0
theorem mixOf_one (cs : List V) : One (mixOf cs) := by
 unfold mixOf
 cases Nat.ble 17 (zerosRun (dropN (zerosPre cs).length cs)) with
 | true => simp only [smallN_eq]; exact One.val _
 | false => exact One.val _
theorem mixOfT_one (e : TypeId) (cs : List V) : One (mixOfT P e cs) := by
 unfold mixOfT
 cases intArr P 4 e with
 | none => exact mixOf_one cs
 | some q =>
  obtain ⟨o, n⟩ := q
  try dsimp only
  cases intsOf .i64 (takeN n (dropN o cs)) with
  | none => exact One.no
  | some l =>
   simp only [lit16_eq]
   cases Nat.beq l.length n && Nat.beq (takeN o cs).length o with
   | true => exact One.val _
   | false => exact One.no
theorem vstore_one (mem : List Blk) (t : TypeId) (b o : Nat) (v : V) : One (vstore P mem t b o v) := by
 unfold vstore
 cases mem[b]? with
 | none => exact One.no
 | some blk =>
  try dsimp only
  cases blk.kind.isArg with
  | true => exact One.no
  | false =>
   obtain ⟨cs, e, kd⟩ := blk
   cases cs with
   | vals old =>
    try dsimp only
    cases cellsOfV v with
    | none => exact One.no
    | some vs =>
     try dsimp only
     cases P.info? t with
     | none => exact One.no
     | some i => exact One.ite (One.val _) One.no
   | ints kd l =>
    try dsimp only
    cases v <;> try exact One.no
    ·try dsimp only
     cases P.info? t with
     | none => exact One.no
     | some i => exact One.ite (One.val _).at One.no
    ·rename_i vs
     try dsimp only
     cases P.info? t with
     | none => exact One.no
     | some i =>
      try dsimp only
      cases intsOf kd vs with
      | none => exact One.no
      | some l' => exact One.ite (One.val _).at One.no
   | bytes l =>
    try dsimp only
    cases v <;> try exact One.no
    rename_i kd n
    cases kd <;> try exact One.no
    try dsimp only
    cases P.info? t with
    | none => exact One.no
    | some i => exact One.ite (One.val _).at One.no
   | strs l =>
    try dsimp only
    cases v <;> try exact One.no
    try dsimp only
    cases P.info? t with
    | none => exact One.no
    | some i => exact One.ite (One.val _).at One.no
   | bools l =>
    try dsimp only
    cases asB v with
    | none => exact One.no
    | some s =>
     try dsimp only
     cases P.info? t with
     | none => exact One.no
     | some i => exact One.ite (One.val _).at One.no
   | map l => exact One.no
   | mat _ _ _ => exact One.no
   | dead => exact One.no
   | recs sh l =>
    try dsimp only
    cases v <;> try exact One.no
    ·try dsimp only
     cases P.info? t with
     | none => exact One.no
     | some i => exact One.ite (One.val _).at One.no
    ·try dsimp only
     cases P.info? t with
     | none => exact One.no
     | some i => exact One.ite (One.val _).at One.no
    ·rename_i vs
     try dsimp only
     cases P.info? t with
     | none => exact One.no
     | some i =>
      try dsimp only
      cases scsOf sh 0 vs with
      | none => exact One.no
      | some l' => simp only [lit16_eq]; exact One.ite (One.val _).at One.no
   | mixi a n l z =>
    try dsimp only
    cases cellsOfV v with
    | none => exact One.no
    | some vs =>
     try dsimp only
     cases P.info? t with
     | none => exact One.no
     | some i =>
      try dsimp only
      cases bigInts P t with
      | some c =>
       try dsimp only
       cases intsOf .i64 vs with
       | none => exact One.no
       | some l' => exact One.ite (One.val _) One.no
      | none =>
       try dsimp only
       cases Nat.ble (a.length + n) o with
       | true => exact One.ite (One.val _) One.no
       | false => exact One.ite (One.val _) One.no
   | mix a n l z =>
    have rest : One fun k => match cellsOfV v with
      | none => False
      | some vs =>
       match P.info? t with
       | none => False
       | some i =>
        match Nat.ble (a.length + n) o with
        | true => if (vs.length = i.size /\ o - (a.length + n) + vs.length <= z.length /\ allCells vs = true) then k (mem.set b { cs := .mix a n l (setCells z (o - (a.length + n)) vs), elem := e, kind := kd : Blk }) else False
        | false => if (vs.length = i.size /\ o + vs.length <= a.length /\ allCells vs = true) then k (mem.set b { cs := .mix (setCells a o vs) n l z, elem := e, kind := kd : Blk }) else False := by
     cases cellsOfV v with
     | none => exact One.no
     | some vs =>
      try dsimp only
      cases P.info? t with
      | none => exact One.no
      | some i =>
       try dsimp only
       cases Nat.ble (a.length + n) o with
       | true => exact One.ite (One.val _) One.no
       | false => exact One.ite (One.val _) One.no
    cases v with
    | arr m l' =>
     try dsimp only
     cases P.info? t with
     | none => exact One.no
     | some i => exact One.ite (One.val _) One.no
    | _ => exact rest
theorem vstoreElt_one (mem : List Blk) (t : TypeId) (b o n j : Nat) (v : V) : One (vstoreElt P mem t b o n j v) := by
 unfold vstoreElt
 cases mem[b]? with
 | none => exact One.no
 | some blk =>
  obtain ⟨cs, e, kd⟩ := blk
  try dsimp only
  cases kd.isArg with
  | true => cases cs <;> exact One.no
  | false =>
   cases cs <;> try exact One.no
   ·cases v <;> try exact One.no
    rename_i k x
    cases k <;> try exact One.no
    try dsimp only
    cases P.info? t with
    | none => exact One.no
    | some i => exact One.ite (One.val _).at One.no
   ·cases v <;> try exact One.no
    rename_i k x
    cases k <;> try exact One.no
    try dsimp only
    cases P.info? t with
    | none => exact One.no
    | some i => exact One.ite (One.val _) One.no
theorem vopC_one (st : St) (op : Op) : One (vopC P op st) := by
 unfold vopC
 cases op with
 | alloc e =>
  try dsimp only
  cases zeroCells P e with
  | none => exact One.no
  | some cs => exact (mixOfT_one e cs).map fun c => (st.mem ++ [⟨c, e, .box⟩], V.ptr st.mem.length 0)
 | box e x =>
  try dsimp only
  cases cellsOfV (ev st x) with
  | none => exact One.no
  | some cs => exact (mixOfT_one e cs).map fun c => (st.mem ++ [⟨c, e, .box⟩], V.ptr st.mem.length 0)
 | store t a x =>
  try dsimp only
  cases ev st a <;> try exact One.no
  ·exact (vstore_one st.mem t _ _ (ev st x)).map fun m => (m, V.undef)
  ·exact (vstoreElt_one st.mem t _ _ _ _ (ev st x)).map fun m => (m, V.undef)
 | convert src dst x =>
  try dsimp only
  cases ev st x <;> try exact One.no
  rename_i s
  try dsimp only
  cases isSliceT P dst with
  | false => exact One.no
  | true =>
   try dsimp only
   unfold vbytes
   cases P.underlying src with
   | none => exact One.no
   | some d =>
    cases d <;> try exact One.no
    cases P.underlying dst with
    | none => exact One.no
    | some d2 =>
     cases d2 <;> try exact One.no
     rename_i e
     try dsimp only
     cases P.underlying e with
     | none => exact One.no
     | some d3 =>
      cases d3 <;> try exact One.no
      rename_i kd
      cases kd <;> try exact One.no
      exact (One.val _).at
 | buildSlice t len parts =>
  try dsimp only
  cases Nat.beq len 0 with
  | true =>
   try dsimp only
   unfold vbuild0
   cases P.underlying t with
   | none => exact One.no
   | some d =>
    cases d <;> try exact One.no
    cases parts.toList with
    | cons _ _ => exact One.no
    | nil =>
     rename_i e
     try dsimp only
     cases P.info? e with
     | none => exact One.no
     | some i =>
      try dsimp only
      cases i.zero with
      | none => exact One.no
      | some z =>
       try dsimp only
       cases emptyOf z with
       | none => exact One.no
       | some c => exact One.withSize (fun sz => One.val _) i.size
  | false =>
  try dsimp only
  cases bytesOf (evL st (parts.toList.map (·.2))) with
  | some _ =>
   try dsimp only
   unfold vbuildS
   cases P.underlying t with
   | none => exact One.no
   | some d =>
    cases d <;> try exact One.no
    rename_i e
    try dsimp only
    cases P.info? e with
    | none => exact One.no
    | some i =>
     try dsimp only
     cases i.zero with
     | none => exact One.no
     | some _ =>
      try dsimp only
      cases bytesOf (evL st (parts.toList.map (·.2))) with
      | none => exact One.no
      | some ns => exact One.ite (One.val _).at One.no
  | none =>
   try dsimp only
   unfold vbuildG
   cases P.underlying t with
   | none => exact One.no
   | some d =>
    cases d <;> try exact One.no
    rename_i e
    try dsimp only
    cases P.info? e with
    | none => exact One.no
    | some i =>
     try dsimp only
     cases i.zero with
     | none => exact One.no
     | some _ =>
      try dsimp only
      cases fillV (arrPlaces i.size 0 len) (evParts st parts.toList) (List.replicate (len * i.size) .undef) with
      | none => exact One.no
      | some cs =>
       try dsimp only
       cases packAny i.size cs with
       | none => exact One.no
       | some c => exact One.ite (One.val _) One.no
 | makeSlice t l m =>
  try dsimp only
  unfold vmake
  cases ev st l <;> try exact One.no
  cases ev st m <;> try exact One.no
  try dsimp only
  cases P.underlying t with
  | none => exact One.no
  | some d =>
   cases d <;> try exact One.no
   rename_i n _ _ e
   try dsimp only
   cases P.info? e with
   | none => exact One.no
   | some i =>
    try dsimp only
    cases i.zero with
    | none => exact One.no
    | some z =>
     try dsimp only
     cases zerosOf z n.toNat with
     | none =>
      try dsimp only
      cases zeroKind z.cells.toList with
      | none =>
       try dsimp only
       cases matZero P e z with
       | none =>
        try dsimp only
        cases shZ z.cells.toList with
        | none => exact One.no
        | some sh => exact One.withSize (fun sz => One.ite (One.val _).at One.no) i.size
       | some q => exact One.ite (One.val _).at One.no
      | some kd => exact One.withSize (fun sz => One.ite (One.val _).at One.no) i.size
     | some cs => exact One.ite (One.val _).at One.no
 | makeMap t r =>
  cases r with
  | none => exact One.val _
  | some r =>
   try dsimp only
   cases P.underlying t with
   | none => exact One.no
   | some d =>
    cases d <;> try exact One.no
    cases ev st r <;> first | exact One.no | exact One.val _
 | _ => exact One.no
/-! ### one order for all -/
theorem hasN_iff (n : Nat) : ∀ l : List Nat, hasN n l = true ↔ n ∈ l
 | [] => by simp [hasN]
 | a :: r => by
  unfold hasN
  cases h : Nat.beq a n with
  | true => simp [Nat.eq_of_beq_eq_true h]
  | false =>
   have := Nat.ne_of_beq_eq_false h
   simp only [List.mem_cons, hasN_iff n r]
   exact ⟨.inr, fun h => h.resolve_left (Ne.symm this)⟩
theorem slotsOf_mem : ∀ {xs : List Operand} {t : Nat}, Operand.tmp t ∈ xs -> t ∈ slotsOf xs
 | x :: xs, t, h => by
  rcases List.mem_cons.1 h with rfl | h
  ·simp [slotsOf]
  ·have := slotsOf_mem h
   cases x <;> simp [slotsOf, this]
theorem get_set_ne {st : St} {d t : Nat} {v : V} (h : t ≠ d) : (st.set d v).get t = st.get t := by
 simp only [St.set, St.get, List.getD_eq_getElem?_getD]
 rw [List.getElem?_set_ne (Ne.symm h)]
theorem ev_set {st : St} {d : Nat} {v : V} {xs : List Operand} (h : d ∉ slotsOf xs) : ∀ x ∈ xs, ev (st.set d v) x = ev st x := by
 intro x hx
 cases x with
 | tmp t =>
  simp only [ev]
  exact get_set_ne fun e => h (e ▸ slotsOf_mem hx)
 | _ => rfl
theorem ev_put {st : St} {d : Option Tmp} {v : V} {xs : List Operand} (h : dstIn d (slotsOf xs) = false) : ∀ x ∈ xs, ev (st.put d v) x = ev st x := by
 cases d with
 | none => exact fun _ _ => rfl
 | some d => exact ev_set fun hm => by rw [show dstIn (some d) (slotsOf xs) = hasN d (slotsOf xs) from rfl, (hasN_iff d _).2 hm] at h; cases h
theorem set_comm {st : St} {d e : Nat} {v u : V} (h : d ≠ e) : (st.set d v).set e u = (st.set e u).set d v := by
 simp only [St.set]
 rw [List.set_comm _ _ h]
theorem put_comm {st : St} {d e : Option Tmp} {v u : V} (h : dstNe d e = true) : (st.put d v).put e u = (st.put e u).put d v := by
 cases d with
 | none => rfl
 | some d =>
  cases e with
  | none => rfl
  | some e =>
   refine set_comm fun he => ?_
   subst he
   simp [dstNe] at h
theorem put_memM (st : St) (d : Option Tmp) (v : V) : (st.put d v).mem = st.mem := by cases d <;> rfl
theorem put_with {st : St} {d e : Option Tmp} {v u : V} {m : List Blk} (h : dstNe d e = true) : St.put { (st.put d v) with mem := m } e u = (St.put { st with mem := m } e u).put d v := by
 cases d with
 | none => rfl
 | some d =>
  have : ({ (st.set d v) with mem := m } : St) = St.set { st with mem := m } d v := rfl
  show St.put { (st.set d v) with mem := m } e u = _
  rw [this]
  exact put_comm (st := { st with mem := m }) (d := some d) h
/-- Where an operation stands does not count for what another one does. -/
theorem vstep_shift {ops : Array Oper} {o oj : Oper} (h : indep P Ωq ops o oj = true) {st : St} {v : V} {k : St -> Prop} (hs : vstep P Ωq ops oj (st.put o.dst v) k) : vstep P Ωq ops oj st fun st2 => k (st2.put o.dst v) := by
 unfold indep at h
 simp only [Bool.and_eq_true, Bool.not_eq_true'] at h
 obtain ⟨⟨⟨⟨⟨h1, h2⟩, h3⟩, h4⟩, h5⟩, h6⟩ := h
 have body : ∀ (wanted : Bool) (st' : St), (match wanted with
   | true => (match lookB P Ωq oj.op with
    | true => vqop P Ωq oj (st'.put o.dst v) fun u => k ((st'.put o.dst v).put oj.dst u)
    | false => vopC P oj.op (st'.put o.dst v) fun p => k (St.put { (st'.put o.dst v) with mem := p.1 } oj.dst p.2))
   | false => k ((st'.put o.dst v).put oj.dst (.tup []))) ->
   (match wanted with
   | true => (match lookB P Ωq oj.op with
    | true => vqop P Ωq oj st' fun u => k ((st'.put oj.dst u).put o.dst v)
    | false => vopC P oj.op st' fun p => k ((St.put { st' with mem := p.1 } oj.dst p.2).put o.dst v))
   | false => k ((st'.put oj.dst (.tup [])).put o.dst v)) := by
  intro wanted st' hb
  cases wanted with
  | false =>
   rw [put_comm h1] at hb
   exact hb
  | true =>
   dsimp only at hb ⊢
   cases hl : lookB P Ωq oj.op with
   | true =>
    rw [hl] at hb
    dsimp only at hb ⊢
    rw [vqop_congr (P := P) (Ωq := Ωq) (st := st') (st2 := st'.put o.dst v) (put_memM _ _ _) (ev_put h2)] at hb
    simp only [put_comm h1] at hb
    exact hb
   | false =>
    rw [hl] at hb
    dsimp only at hb ⊢
    rw [vopC_congr (P := P) (st := st') (st2 := st'.put o.dst v) (put_memM _ _ _) (ev_put h2)] at hb
    simp only [put_with h1] at hb
    exact hb
 unfold vstep vguard at hs ⊢
 cases hg : oj.guard with
 | none =>
  rw [hg] at hs
  exact body true st hs
 | some gw =>
  obtain ⟨g, want⟩ := gw
  rw [hg] at hs
  dsimp only at hs ⊢
  cases hog : ops[g]? with
  | none => rw [hog] at hs; exact hs.elim
  | some og =>
   rw [hog] at hs
   dsimp only at hs ⊢
   cases hd : og.dst with
   | none => rw [hd] at hs; exact hs.elim
   | some d =>
    rw [hd] at hs
    dsimp only at hs ⊢
    have hgd : guardDst ops oj = some d := by unfold guardDst; rw [hg]; dsimp only; rw [hog]; exact hd
    rw [hgd] at h4
    have hne : ∀ e, o.dst = some e -> e ≠ d := fun e he hed => by rw [he] at h4; subst hed; simp [dstNe] at h4
    have hget : (st.put o.dst v).get d = st.get d := by
     cases ho : o.dst with
     | none => rfl
     | some e => exact get_set_ne (Ne.symm (hne e ho))
    have hset : ∀ u, (st.put o.dst v).set d u = (st.set d u).put o.dst v := fun u => by
     have := put_comm (st := st) (d := o.dst) (e := some d) (v := v) (u := u) h4
     exact this
    rw [hget] at hs
    cases hst : st.get d <;> rw [hst] at hs <;> try exact hs.elim
    ·dsimp only at hs ⊢
     rw [hset, hset] at hs
     exact ⟨fun hb => body _ _ (hs.1 hb), fun hb => body _ _ (hs.2 hb)⟩
    ·exact body _ _ hs
    ·rename_i cs
     cases cs with
     | nil => exact body false st hs
     | cons _ _ => exact hs.elim
theorem mixOf_ex {e : TypeId} {cs : List V} {k : Cells -> Prop} (h : mixOfT P e cs k) : ∃ c, k c := by
 obtain ⟨c, h1, _⟩ := mixOfT_one e cs k h
 exact ⟨c, h1⟩
theorem vopC_grow {st : St} {op : Op} {K : List Blk × V -> Prop} (hg : growKind op = true) (h : vopC P op st K) : ∃ p ex, K p /\ p.1 = st.mem ++ ex := by
 have key : ∀ (φ : (Blk × V -> Prop) -> Prop), One φ -> (φ fun q => K (st.mem ++ [q.1], q.2)) -> ∃ p ex, K p /\ p.1 = st.mem ++ ex := by
  intro φ ho hφ
  obtain ⟨q, h1, _⟩ := ho _ hφ
  exact ⟨_, [q.1], h1, rfl⟩
 have ex : ∀ (p : List Blk × V) (e : List Blk), K p -> p.1 = st.mem ++ e -> ∃ p ex, K p /\ p.1 = st.mem ++ ex := fun p e h1 h2 => ⟨p, e, h1, h2⟩
 unfold vopC at h
 cases op <;> simp only [growKind, Bool.false_eq_true] at hg
 ·dsimp only at h
  split at h
  ·exact h.elim
  ·obtain ⟨c, h⟩ := mixOf_ex h
   exact ex _ _ h rfl
 ·dsimp only at h
  split at h
  ·exact h.elim
  ·obtain ⟨c, h⟩ := mixOf_ex h
   exact ex _ _ h rfl
 ·dsimp only at h
  split at h
  ·unfold vbuild0 at h
   split at h
   ·split at h
    ·exact h.elim
    ·split at h
     ·exact h.elim
     ·split at h
      ·exact h.elim
      ·exact ex _ _ (withSize_spec h) rfl
   ·exact h.elim
  split at h
  ·unfold vbuildS at h
   (repeat' split at h) <;> first | exact h.elim | exact ex _ _ h.2 rfl
  ·unfold vbuildG at h
   (repeat' split at h) <;> first | exact h.elim | exact ex _ _ h rfl
 ·try dsimp only at h
  unfold vbytes at h
  (repeat' split at h) <;> first | exact h.elim | exact ex _ _ h.2 rfl
 ·rename_i t r
  cases r with
  | none => exact ex _ _ h rfl
  | some r =>
   dsimp only at h
   (repeat' split at h) <;> first | exact h.elim | exact ex _ _ h rfl
 ·dsimp only at h
  unfold vmake at h
  split at h
  ·split at h
   ·split at h
    ·exact h.elim
    ·split at h
     ·exact h.elim
     ·split at h
      ·split at h
       ·split at h
        ·split at h
         ·exact h.elim
         ·replace h := withSize_spec h
          split at h
          ·exact ex _ _ h.2 rfl
          ·exact h.elim
        ·split at h
         ·exact ex _ _ h.2 rfl
         ·exact h.elim
       ·replace h := withSize_spec h
        split at h
        ·exact ex _ _ h.2 rfl
        ·exact h.elim
      ·split at h
       ·exact ex _ _ h.2 rfl
       ·exact h.elim
   ·exact h.elim
  ·exact h.elim
theorem vqcall_one (ex : List Nat) (F : FSpec) (args : List V) (mem : List Blk) : One (vqcall ex F args mem) := by
 unfold vqcall
 dsimp only
 generalize addLive mem (reach mem 3 (addLive mem [] (namesL args))) ex = ns
 cases pickMem mem ns with
 | none => exact One.no
 | some m =>
  dsimp only
  cases coveredB ns m with
  | false => exact One.no
  | true =>
   dsimp only
   cases F (selL (fun n => posOf n ns 0) args) (selBlks (fun n => posOf n ns 0) m) with
   | none => exact One.no
   | some pR =>
    obtain ⟨p, R⟩ := pR
    dsimp only
    cases R.under 0 && R.det with
    | false => exact One.no
    | true => exact (One.val _).at
theorem vqop_one (o : Oper) (st : St) : One (vqop P Ωq o st) := by
 have plain : One fun k => vval P st o.op (onlyDet k) := by
  intro k h
  obtain ⟨v, h1, h2⟩ := vval_one st o.op _ h
  unfold onlyDet at h1
  split at h1
  ·rename_i hd
   exact ⟨v, h1, fun k' h' => h2 _ (by unfold onlyDet; rw [hd]; exact h')⟩
  ·exact h1.elim
 unfold vqop
 cases hop : o.op with
 | alloc _ => exact One.no
 | box _ _ => exact One.no
 | store _ _ _ => exact One.no
 | call c =>
  rw [hop] at plain
  dsimp only
  cases c.callee with
  | value f =>
   dsimp only
   cases ev st f <;> try exact One.no
   rename_i g caps
   dsimp only
   cases Ωq g with
   | none => exact One.no
   | some F =>
    dsimp only
    unfold vqcallV
    split
    ·exact vqcall_one _ F _ _
    ·exact vqcall_one _ F _ _
  | _ => exact plain
 | _ => rw [hop] at plain; exact plain
theorem vload_ext {mem ex : List Blk} {t : TypeId} {b o : Nat} {k : V -> Prop} (h : vload P mem t b o k) : vload P (mem ++ ex) t b o k := by
 unfold vload at h ⊢
 cases hb : mem[b]? with
 | none => rw [hb] at h; exact h.elim
 | some blk =>
  rw [hb] at h
  rw [List.getElem?_append_left (List.getElem?_eq_some_iff.1 hb).1, hb]
  exact h
theorem vloadElt_ext {mem ex : List Blk} {t : TypeId} {b o n j : Nat} {k : V -> Prop} (h : vloadElt P mem t b o n j k) : vloadElt P (mem ++ ex) t b o n j k := by
 unfold vloadElt at h ⊢
 cases hb : mem[b]? with
 | none => rw [hb] at h; exact h.elim
 | some blk =>
  rw [hb] at h
  rw [List.getElem?_append_left (List.getElem?_eq_some_iff.1 hb).1, hb]
  exact h
theorem vloadInr_ext {mem ex : List Blk} {t : TypeId} {b i j : Nat} {k : V -> Prop} (h : vloadInr P mem t b i j k) : vloadInr P (mem ++ ex) t b i j k := by
 unfold vloadInr at h ⊢
 cases hb : mem[b]? with
 | none => rw [hb] at h; exact h.elim
 | some blk =>
  rw [hb] at h
  rw [List.getElem?_append_left (List.getElem?_eq_some_iff.1 hb).1, hb]
  exact h
theorem vqcall_nameless {F : FSpec} {args : List V} {mem mem2 : List Blk} (h : namesL args = []) : vqcall [] F args mem = vqcall [] F args mem2 := by
 funext k
 simp only [vqcall, h, addLive, reach, blkNames]
 rfl
theorem viewOne_nameless {mem : List Blk} {w : Bool} {v : V} {N : Nat} (h : v.names = []) : (viewOne mem w N v).2 = [] := by
 have hv : viewOf mem w v = none := by
  cases v <;> first | rfl | (simp [V.names] at h)
 unfold viewOne
 rw [hv]
mutual
theorem viewV_nameless {mem : List Blk} {w : Bool} : ∀ {v : V} {N : Nat}, v.names = [] -> (viewV mem w N v).2 = []
 | .agg cs, N, h => viewAll_nameless (args := cs) (N := N) h
 | .undef, _, h => viewOne_nameless h
 | .int _ _, _, h => viewOne_nameless h
 | .bool _, _, h => viewOne_nameless h
 | .lit _, _, h => viewOne_nameless h
 | .str _, _, h => viewOne_nameless h
 | .ptr _ _, _, h => viewOne_nameless h
 | .nilp, _, h => viewOne_nameless h
 | .raw _, _, h => viewOne_nameless h
 | .row _ _, _, h => viewOne_nameless h
 | .fn _ _, _, h => viewOne_nameless h
 | .mp _, _, h => viewOne_nameless h
 | .arr _ _, _, h => viewOne_nameless h
 | .elt _ _ _ _, _, h => viewOne_nameless h
 | .sub _ _ _ _, _, h => viewOne_nameless h
 | .inr _ _ _, _, h => viewOne_nameless h
 | .iptr _ _ _, _, h => viewOne_nameless h
 | .view _ _ _ _ _, _, h => viewOne_nameless h
 | .emp, _, h => viewOne_nameless h
 | .gp _ _, _, h => viewOne_nameless h
 | .tup _, _, h => viewOne_nameless h
theorem viewAll_nameless {mem : List Blk} {w : Bool} : ∀ {args : List V} {N : Nat}, namesL args = [] -> (viewAll mem w N args).2 = []
 | [], _, _ => rfl
 | v :: r, N, h => by
  simp only [namesL, List.append_eq_nil_iff] at h
  have hu : viewAll mem w N (v :: r) = viewTwo (viewV mem w N v) (fun M => viewAll mem w M r) N := rfl
  rw [hu, viewTwo_eq, viewV_nameless h.1, viewAll_nameless h.2]
  rfl
end
theorem glEx_no {g : FuncId} (h : noGl P g = true) (mem : List Blk) : glEx P g mem = [] := by
 unfold noGl at h
 unfold glEx
 split
 ·rfl
 ·split
  ·rename_i fn hf
   rw [hf] at h
   simp only [Bool.not_eq_true'] at h
   rw [h]
  ·rfl
theorem vqcallV_nameless {F : FSpec} {args : List V} {mem mem2 : List Blk} (h : namesL args = []) : vqcallV [] F args mem = vqcallV [] F args mem2 := by
 funext k
 unfold vqcallV
 rw [viewAll_nameless h, viewAll_nameless h]
 dsimp only
 rw [vqcall_nameless (mem := mem) (mem2 := mem2) h]
theorem findGl_ext {ex : List Blk} : ∀ {mem : List Blk} {g i b : Nat}, findGl mem g i = some b -> findGl (mem ++ ex) g i = some b
 | [], _, _, _, h => by cases h
 | x :: r, g, i, b, h => by
  rw [List.cons_append]
  unfold findGl at h ⊢
  split at h
  ·exact h
  ·exact findGl_ext h
/-- What is picked says the same behind what may come before it. -/
theorem vqop_mem {o : Oper} {st : St} {m : List Blk} {k : V -> Prop} (hk : (pureKind o.op || loadKind o.op || namelessB P Ωq st o.op) = true) (hm : loadKind o.op = true -> ∃ ex, m = st.mem ++ ex) (h : vqop P Ωq o st k) : vqop P Ωq o { st with mem := m } k := by
 simp only [Bool.or_eq_true] at hk
 unfold vqop at h ⊢
 cases hop : o.op <;> rw [hop] at hk hm h <;> simp only [pureKind, loadKind, namelessB, Bool.false_eq_true, or_self, false_or, or_false] at hk
 all_goals try exact h
 case build t parts =>
  dsimp only [vval] at h ⊢
  rw [evParts_congr (st := st) (st2 := { st with mem := m }) fun x _ => by cases x <;> rfl]
  exact h
 case load t a =>
  obtain ⟨ex, rfl⟩ := hm rfl
  dsimp only [vval] at h ⊢
  change (match ev st a with | .ptr b o => vload P (st.mem ++ ex) t b o (onlyDet k) | .elt b o n j => vloadElt P (st.mem ++ ex) t b o n j (onlyDet k) | .iptr b i j => vloadInr P (st.mem ++ ex) t b i j (onlyDet k) | .gp g o => (match findGl (st.mem ++ ex) g 0 with | some b => vload P (st.mem ++ ex) t b o (onlyDet k) | none => False) | _ => False)
  cases he : ev st a <;> rw [he] at h <;> try exact h.elim
  ·exact vload_ext h
  ·exact vloadElt_ext h
  ·exact vloadInr_ext h
  ·dsimp only at h ⊢
   split at h
   ·rename_i b hb
    rw [findGl_ext hb]
    exact vload_ext h
   ·exact h.elim
 case call c =>
  have evm : ∀ x ∈ c.args.toList, ev { st with mem := m } x = ev st x := fun x _ => by cases x <;> rfl
  dsimp only at h ⊢
  cases hc : c.callee with
  | value f =>
   rw [hc] at h hk
   simp only [Bool.false_eq_true, false_or] at hk
   cases f with
   | tmp _ => cases hk
   | const _ => cases hk
   | global _ => cases hk
   | func g =>
    dsimp only [ev] at h ⊢
    cases hF : Ωq g with
    | none => rw [hF] at h; exact h.elim
    | some F =>
     dsimp only at hk
     rw [hF] at h hk
     dsimp only at h hk ⊢
     have hn : namesL (evL st c.args.toList) = [] := by
      cases hl : namesL (evL st c.args.toList) with
      | nil => rfl
      | cons _ _ => rw [hl] at hk; cases hk
     rw [evL_congr evm]
     simp only [List.map_nil, List.append_nil] at h ⊢
     have hno : noGl P g = true := by
      rw [hn] at hk; exact hk
     rw [glEx_no hno] at h ⊢
     rw [vqcallV_nameless (F := F) (mem := m) (mem2 := st.mem) hn]
     exact h
  | builtin b =>
   rw [hc] at h
   dsimp only [vval] at h ⊢
   rw [vlen_congr (P := P) (st := st) (st2 := { st with mem := m }) evm]
   exact h
  | invoke _ _ => rw [hc] at hk; simp at hk
theorem ev_set_eq {st : St} {d : Nat} {v : V} {xs : List Operand} (h : dstIn (some d) (slotsOf xs) = false) : ∀ x ∈ xs, ev (st.set d v) x = ev st x :=
 ev_put (d := some d) h
/-- An operation's step comes to one state, in which what another one asks for is as it was. -/
theorem vstep_one {ops : Array Oper} {o oj : Oper} (h : indep P Ωq ops o oj = true) {st : St} {k : St -> Prop} (hs : vstep P Ωq ops oj st k) :
  ∃ st2, k st2 /\ (∀ x ∈ o.op.operands.toList, ev st2 x = ev st x) /\ (loadKind o.op = true -> ∃ ex, st2.mem = st.mem ++ ex) /\ ∀ k', k' st2 -> vstep P Ωq ops oj st k' := by
 unfold indep at h
 simp only [Bool.and_eq_true, Bool.not_eq_true', Bool.or_eq_true] at h
 obtain ⟨⟨⟨⟨⟨h1, h2⟩, h3⟩, h4⟩, h5⟩, h6⟩ := h
 have body : ∀ (wanted : Bool) (st' : St), (match wanted with
   | true => (match lookB P Ωq oj.op with
    | true => vqop P Ωq oj st' fun u => k (st'.put oj.dst u)
    | false => vopC P oj.op st' fun p => k (St.put { st' with mem := p.1 } oj.dst p.2))
   | false => k (st'.put oj.dst (.tup []))) ->
   ∃ st2, k st2 /\ (∀ x ∈ o.op.operands.toList, ev st2 x = ev st' x) /\ (loadKind o.op = true -> ∃ ex, st2.mem = st'.mem ++ ex) /\ ∀ k' : St -> Prop, k' st2 -> (match wanted with
   | true => (match lookB P Ωq oj.op with
    | true => vqop P Ωq oj st' fun u => k' (st'.put oj.dst u)
    | false => vopC P oj.op st' fun p => k' (St.put { st' with mem := p.1 } oj.dst p.2))
   | false => k' (st'.put oj.dst (.tup []))) := by
  intro wanted st' hb
  cases wanted with
  | false => exact ⟨_, hb, ev_put h3, fun _ => ⟨[], by rw [put_memM, List.append_nil]⟩, fun k' h' => h'⟩
  | true =>
   dsimp only at hb ⊢
   cases hl : lookB P Ωq oj.op with
   | true =>
    rw [hl] at hb
    dsimp only at hb ⊢
    obtain ⟨v, g1, g2⟩ := vqop_one oj st' _ hb
    exact ⟨_, g1, ev_put h3, fun _ => ⟨[], by rw [put_memM, List.append_nil]⟩, fun k' h' => g2 _ h'⟩
   | false =>
    rw [hl] at hb h6
    dsimp only at hb ⊢
    obtain ⟨p, g1, g2⟩ := vopC_one st' oj.op _ hb
    refine ⟨_, g1, fun x hx => ?_, fun hload => ?_, fun k' h' => g2 _ h'⟩
    ·rw [ev_put (st := { st' with mem := p.1 }) h3 x hx]
     cases x <;> rfl
    ·have hg : growKind oj.op = true := by
      rcases h6 with (h6 | h6) | h6
      ·rw [hload] at h6; cases h6
      ·cases h6
      ·exact h6
     obtain ⟨q, ex, e1, e2⟩ := vopC_grow hg (g2 (· = p) rfl)
     rw [e1] at e2
     exact ⟨ex, by rw [put_memM]; exact e2⟩
 unfold vstep vguard at hs ⊢
 cases hg : oj.guard with
 | none =>
  rw [hg] at hs
  exact body true st hs
 | some gw =>
  obtain ⟨g, want⟩ := gw
  rw [hg] at hs
  dsimp only at hs ⊢
  cases hog : ops[g]? with
  | none => rw [hog] at hs; exact hs.elim
  | some og =>
   rw [hog] at hs
   dsimp only at hs ⊢
   cases hd : og.dst with
   | none => rw [hd] at hs; exact hs.elim
   | some d =>
    rw [hd] at hs
    dsimp only at hs ⊢
    have hgd : guardDst ops oj = some d := by unfold guardDst; rw [hg]; dsimp only; rw [hog]; exact hd
    rw [hgd] at h5
    cases hst : st.get d <;> rw [hst] at hs <;> try exact hs.elim
    ·rename_i b
     dsimp only at hs ⊢
     cases b with
     | true =>
      obtain ⟨st2, g1, g2, g3, g4⟩ := body _ _ (hs.1 rfl)
      exact ⟨st2, g1, fun x hx => (g2 x hx).trans (ev_set_eq h5 x hx), g3, fun k' h' => ⟨fun _ => g4 k' h', (fun hb => by cases hb)⟩⟩
     | false =>
      obtain ⟨st2, g1, g2, g3, g4⟩ := body _ _ (hs.2 rfl)
      exact ⟨st2, g1, fun x hx => (g2 x hx).trans (ev_set_eq h5 x hx), g3, fun k' h' => ⟨(fun hb => by cases hb), fun _ => g4 k' h'⟩⟩
    ·exact body _ _ hs
    ·rename_i cs
     cases cs with
     | nil => exact body false st hs
     | cons _ _ => exact hs.elim
theorem pick_all {ops : Array Oper} {i : Nat} {o : Oper} (ho : ops[i]? = some o) (hg : o.guard = none) (hl : lookB P Ωq o.op = true) {k : St -> Prop} (C : Array Bool -> Prop)
  (hC : ∀ L, C L -> i ∈ Region.ready .any ops L /\ ∀ j oj, ops[j]? = some oj -> j ≠ i -> j ∈ Region.ready .any ops L -> indep P Ωq ops o oj = true /\ C (L.setIfInBounds j true)) :
  ∀ (f : Nat) (L : Array Bool) (st : St), C L -> (pureKind o.op || loadKind o.op || namelessB P Ωq st o.op) = true -> vqop P Ωq o st (fun v => vschedA P Ωq ops f (L.setIfInBounds i true) (st.put o.dst v) k) -> vschedA P Ωq ops (f + 1) L st k := by
 have self : ∀ (f : Nat) (L : Array Bool) (st : St), vqop P Ωq o st (fun v => vschedA P Ωq ops f (L.setIfInBounds i true) (st.put o.dst v) k) -> vstep P Ωq ops o st fun st' => vschedA P Ωq ops f (L.setIfInBounds i true) st' k := by
  intro f L st h
  unfold vstep vguard
  rw [hg]
  dsimp only
  rw [hl]
  exact h
 intro f
 induction f with
 | zero =>
  intro L st hCL hk h
  obtain ⟨hr, hind⟩ := hC L hCL
  refine ⟨fun h0 => (by rw [h0] at hr; cases hr), fun j hj => ?_⟩
  by_cases hji : j = i
  ·subst hji
   exact ⟨o, ho, self 0 L st h⟩
  ·obtain ⟨v, h1, _⟩ := vqop_one o st _ h
   have h2 := ready_mono hj hji
   unfold vschedA at h1
   split at h1
   ·rename_i h0; rw [h0] at h2; cases h2
   ·exact h1.elim
 | succ f ih =>
  intro L st hCL hk h
  obtain ⟨hr, hind⟩ := hC L hCL
  refine ⟨fun h0 => (by rw [h0] at hr; cases hr), fun j hj => ?_⟩
  by_cases hji : j = i
  ·subst hji
   exact ⟨o, ho, self (f + 1) L st h⟩
  ·obtain ⟨v, h1, h2⟩ := vqop_one o st _ h
   have hj2 := ready_mono hj hji
   obtain ⟨oj, hoj, hstep⟩ := h1.2 j hj2
   obtain ⟨hin, hC'⟩ := hind j oj hoj hji hj
   obtain ⟨st2, g1, g2, g3, g4⟩ := vstep_one hin (vstep_shift hin hstep)
   refine ⟨oj, hoj, g4 _ ?_⟩
   have hk2 : (pureKind o.op || loadKind o.op || namelessB P Ωq st2 o.op) = true := by
    have : namelessB P Ωq st2 o.op = namelessB P Ωq st o.op := by
     unfold namelessB
     cases hop : o.op <;> try rfl
     rename_i c
     rw [hop] at g2
     dsimp only
     cases c.callee <;> try rfl
     try dsimp only
     rw [evL_congr (xs := c.args.toList) fun x hx => g2 x (by simp only [Op.operands, Call.operands, Array.toList_append, List.mem_append]; exact .inr hx)]
    rw [this]; exact hk
   refine ih (L.setIfInBounds j true) st2 hC' hk2 ?_
   have h3 : vqop P Ωq o st fun v => vschedA P Ωq ops f ((L.setIfInBounds j true).setIfInBounds i true) (st2.put o.dst v) k := by
    refine h2 _ ?_
    rw [Array.setIfInBounds_comm _ _ hji]
    exact g1
   have h4 := vqop_mem (m := st2.mem) hk (fun hload => g3 hload) h3
   rw [vqop_congr (P := P) (Ωq := Ωq) (st := { st with mem := st2.mem }) (st2 := st2) rfl fun x hx => (g2 x hx).trans (by cases x <;> rfl)]
   exact h4
theorem chk_spec {ops : Array Oper} {listed : Array Bool} {bl : List Bool} {i : Nat} {o : Oper} (hi : i ∈ Region.ready .any ops listed) (h : chkFree P Ωq ops listed bl i o = true) :
  ∃ C : Array Bool -> Prop, C listed /\ ∀ L, C L -> i ∈ Region.ready .any ops L /\ ∀ j oj, ops[j]? = some oj -> j ≠ i -> j ∈ Region.ready .any ops L -> indep P Ωq ops o oj = true /\ C (L.setIfInBounds j true) := by
 refine ⟨fun L => L.size = listed.size /\ L.getD i true = false /\ (∀ j, listed.getD j false = true -> L.getD j false = true) /\ ∀ j, L.getD j false = true -> listed.getD j false = true \/ bl.getD j false = false, ⟨rfl, (mem_ready.1 hi).1, fun _ h => h, fun _ h => .inl h⟩, fun L ⟨hsz, hun, hsub, hbl⟩ => ⟨?_, fun j oj hoj hji hj => ?_⟩⟩
 ·obtain ⟨_, o', ho', hall⟩ := mem_ready.1 hi
  exact mem_ready.2 ⟨hun, o', ho', fun e he hb => hsub _ (hall e he hb)⟩
 ·obtain ⟨hjun, oj', hoj', hall⟩ := mem_ready.1 hj
  rw [hoj] at hoj'
  injection hoj' with hoj'
  subst hoj'
  have hjl : listed.getD j true = false := by
   have h1 := getD_both hjun
   rcases Nat.lt_or_ge j listed.size with hlt | hge
   ·cases hlj : listed.getD j false with
    | true => rw [hsub j hlj] at h1; cases h1
    | false => exact getD_in hlt hlj
   ·simp [Array.getElem?_eq_none (show L.size <= j by omega)] at hjun
  unfold chkFree at h
  rw [List.all_eq_true] at h
  have hj0 := h j (List.mem_range.2 (Array.getElem?_eq_some_iff.1 hoj).1)
  rw [hoj, hjl] at hj0
  have hbeq : Nat.beq j i = false := by
   cases hb : Nat.beq j i with
   | true => exact absurd (Nat.eq_of_beq_eq_true hb) hji
   | false => rfl
  rw [hbeq] at hj0
  simp only [Bool.false_or, Bool.or_false] at hj0
  cases hbj : bl.getD j false with
  | true =>
   exfalso
   rw [hbj] at hj0
   obtain ⟨e, he, hb⟩ := Array.any_eq_true'.1 hj0
   simp only [Bool.and_eq_true, Bool.or_eq_true, Bool.not_eq_true'] at hb
   obtain ⟨hb1, hb2⟩ := hb
   have hLe := hall e he hb1
   rcases hb2 with hb2 | ⟨hb2, hb3⟩
   ·rw [Nat.eq_of_beq_eq_true hb2, getD_both hun] at hLe
    cases hLe
   ·rcases hbl _ hLe with h1 | h1
    ·rw [getD_both hb3] at h1; cases h1
    ·rw [hb2] at h1; cases h1
  | false =>
   rw [hbj] at hj0
   refine ⟨hj0, by rw [Array.size_setIfInBounds]; exact hsz, by rw [getD_set_ne true hji]; exact hun, fun l hl => getD_set_true (hsub l hl), fun l hl => ?_⟩
   by_cases hjl' : j = l
   ·subst hjl'; exact .inr hbj
   ·rw [getD_set_ne false hjl'] at hl; exact hbl l hl
theorem pickM_spec {ops : Array Oper} {listed : Array Bool} {st : St} : ∀ {r : List Nat} {i : Nat}, pickM P Ωq ops listed st r = some i ->
  i ∈ r /\ ∃ o, ops[i]? = some o /\ o.guard = none /\ lookB P Ωq o.op = true /\ (pureKind o.op || loadKind o.op || namelessB P Ωq st o.op) = true /\ chkFree P Ωq ops listed (onlyAfter ops i ops.size []) i o = true
 | [], i, h => by simp [pickM] at h
 | j :: r, i, h => by
  unfold pickM at h
  split at h
  ·obtain ⟨h1, h2⟩ := pickM_spec h
   exact ⟨List.mem_cons_of_mem _ h1, h2⟩
  ·rename_i o ho
   split at h
   ·rename_i hc
    injection h with h
    subst h
    simp only [Bool.and_eq_true, Option.isNone_iff_eq_none] at hc
    exact ⟨by simp, o, ho, hc.1.1.1, hc.1.1.2, hc.1.2, hc.2⟩
   ·obtain ⟨h1, h2⟩ := pickM_spec h
    exact ⟨List.mem_cons_of_mem _ h1, h2⟩
theorem vall_mem {p : Nat -> Prop} : ∀ {l : List Nat}, vsched.vall l p -> ∀ i ∈ l, p i
 | [], _, i, h => by cases h
 | j :: r, ⟨h1, h2⟩, i, h => by
  rcases List.mem_cons.1 h with rfl | h
  ·exact h1
  ·exact vall_mem h2 i h
theorem vstep_mono {ops : Array Oper} {oj : Oper} {st : St} {k k' : St -> Prop} (hs : vstep P Ωq ops oj st k) (hk : ∀ st', k st' -> k' st') : vstep P Ωq ops oj st k' := by
 have body : ∀ (wanted : Bool) (st' : St), (match wanted with
   | true => (match lookB P Ωq oj.op with
    | true => vqop P Ωq oj st' fun u => k (st'.put oj.dst u)
    | false => vopC P oj.op st' fun p => k (St.put { st' with mem := p.1 } oj.dst p.2))
   | false => k (st'.put oj.dst (.tup []))) ->
   (match wanted with
   | true => (match lookB P Ωq oj.op with
    | true => vqop P Ωq oj st' fun u => k' (st'.put oj.dst u)
    | false => vopC P oj.op st' fun p => k' (St.put { st' with mem := p.1 } oj.dst p.2))
   | false => k' (st'.put oj.dst (.tup []))) := by
  intro wanted st' hb
  cases wanted with
  | false => exact hk _ hb
  | true =>
   dsimp only at hb ⊢
   cases hl : lookB P Ωq oj.op with
   | true =>
    rw [hl] at hb
    obtain ⟨v, g1, g2⟩ := vqop_one oj st' _ hb
    exact g2 _ (hk _ g1)
   | false =>
    rw [hl] at hb
    obtain ⟨p, g1, g2⟩ := vopC_one st' oj.op _ hb
    exact g2 _ (hk _ g1)
 unfold vstep vguard at hs ⊢
 cases hg : oj.guard with
 | none =>
  rw [hg] at hs
  exact body true st hs
 | some gw =>
  obtain ⟨g, want⟩ := gw
  rw [hg] at hs
  dsimp only at hs ⊢
  cases hog : ops[g]? with
  | none => rw [hog] at hs; exact hs.elim
  | some og =>
   rw [hog] at hs
   dsimp only at hs ⊢
   cases hd : og.dst with
   | none => rw [hd] at hs; exact hs.elim
   | some d =>
    rw [hd] at hs
    dsimp only at hs ⊢
    cases hst : st.get d <;> rw [hst] at hs <;> try exact hs.elim
    ·exact ⟨fun hb => body _ _ (hs.1 hb), fun hb => body _ _ (hs.2 hb)⟩
    ·exact body _ _ hs
    ·rename_i cs
     cases cs with
     | nil => exact body false st hs
     | cons _ _ => exact hs.elim
/-- One order for all. -/
theorem vschedM_all {ops : Array Oper} {k : St -> Prop} : ∀ (f : Nat) (L : Array Bool) (st : St), vschedM P Ωq ops f L st k -> vschedA P Ωq ops f L st k
 | 0, L, st, h => h
 | f + 1, L, st, h => by
  unfold vschedM at h
  replace h := St.force_spec h
  split at h
  ·rename_i hr
   exact ⟨fun _ => h, fun i hi => by rw [hr] at hi; cases hi⟩
  ·rename_i i0 r hr
   split at h
   ·rename_i i hi
    obtain ⟨hmem, o, ho, hg, hl, hk, hchk⟩ := pickM_spec hi
    rw [ho] at h
    dsimp only at h
    have hir : i ∈ Region.ready .any ops L := by rw [hr]; exact hmem
    obtain ⟨C, hC0, hC⟩ := chk_spec hir hchk
    refine pick_all ho hg hl C hC f L st hC0 hk ?_
    obtain ⟨v, g1, g2⟩ := vqop_one o st _ h
    exact g2 _ (vschedM_all f _ _ g1)
   ·refine ⟨fun h0 => (by rw [hr] at h0; cases h0), fun i hi => ?_⟩
    rw [hr] at hi
    have h1 := vall_mem h i hi
    cases ho : ops[i]? with
    | none => rw [ho] at h1; exact h1.elim
    | some o =>
     rw [ho] at h1
     exact ⟨o, rfl, vstep_mono h1 fun st' h' => vschedM_all f _ _ h'⟩
end
end Go.Vi
