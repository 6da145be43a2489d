/- Operations that act; regions, code and functions. -/
import Derived.Test.YtpkokghbkamelaaDoorVim
namespace Go.Vi
open Go.RowKit

/-- A specification of a function: what must hold, and what then becomes of the continuation. -/
abbrev VSpec := List V -> List Blk -> (V -> List Blk -> Prop) -> Prop

/-! ### names of arguments -/
mutual
def V.names : V -> List Nat
 | .ptr b _ => [b]
 | .row b _ => [b]
 | .fn _ caps => caps
 | .mp b => [b]
 | .elt b _ _ _ => [b]
 | .sub b _ _ _ => [b]
 | .inr b _ _ => [b]
 | .iptr b _ _ => [b]
 | .view b _ _ _ _ => [b]
 | .agg cs => namesL cs
 | .tup cs => namesL cs
 | _ => []
def namesL : List V -> List Nat
 | [] => []
 | v :: vs => v.names ++ namesL vs
end
def pickMem (mem : List Blk) : List Nat -> Option (List Blk)
 | [] => some []
 | n :: ns =>
  match mem[n]? with
  | none => none
  | some blk =>
   match blk.cs.isDead with
   | true => none
   | false =>
    match pickMem mem ns with
    | none => none
    | some r => some (blk :: r)
def updMem (mem : List Blk) : List Nat -> List Blk -> List Blk
 | n :: ns, b :: bs => updMem (mem.set n b) ns bs
 | _, _ => mem
/-! ### blocks chosen anew -/
mutual
def V.sel (τ : Nat -> Option Nat) : V -> V
 | .ptr b o => (match τ b with | some c => .ptr c o | none => .undef)
 | .row b n => (match τ b with | some c => .row c n | none => .undef)
 | .mp b => (match τ b with | some c => .mp c | none => .undef)
 | .elt b o n j => (match τ b with | some c => .elt c o n j | none => .undef)
 | .sub b o n m => (match τ b with | some c => .sub c o n m | none => .undef)
 | .inr b i n => (match τ b with | some c => .inr c i n | none => .undef)
 | .iptr b i j => (match τ b with | some c => .iptr c i j | none => .undef)
 | .view b o sz n q => (match τ b with | some c => .view c o sz n q | none => .undef)
 | .fn g caps => (match selCaps τ caps with | some cs => .fn g cs | none => .undef)
 | .agg cs => .agg (selL τ cs)
 | .tup cs => .tup (selL τ cs)
 | v => v
def selL (τ : Nat -> Option Nat) : List V -> List V
 | [] => []
 | v :: vs => v.sel τ :: selL τ vs
def selCaps (τ : Nat -> Option Nat) : List Nat -> Option (List Nat)
 | [] => some []
 | b :: r => (match τ b, selCaps τ r with | some c, some cs => some (c :: cs) | _, _ => none)
end
def Cells.sel (τ : Nat -> Option Nat) (c : Cells) : Cells :=
 match c with
 | .vals vs => .vals (selL τ vs)
 | .mix a n l z => .mix (selL τ a) n l (selL τ z)
 | .mixi a n l z => .mixi (selL τ a) n l (selL τ z)
 | c => c
def Blk.sel (τ : Nat -> Option Nat) (b : Blk) : Blk := ⟨b.cs.sel τ, b.elem, b.kind⟩
def selBlks (τ : Nat -> Option Nat) : List Blk -> List Blk
 | [] => []
 | b :: r => b.sel τ :: selBlks τ r
def Cells.names : Cells -> List Nat
 | .vals vs => namesL vs
 | .mix a _ _ z => namesL a ++ namesL z
 | .mixi a _ _ z => namesL a ++ namesL z
 | _ => []
def hasN (n : Nat) : List Nat -> Bool
 | [] => false
 | a :: r => (match Nat.beq a n with | true => true | false => hasN n r)
def posOf (n : Nat) : List Nat -> Nat -> Option Nat
 | [], _ => none
 | a :: r, i => (match Nat.beq a n with | true => some i | false => posOf n r (i + 1))
def alive (mem : List Blk) (n : Nat) : Bool :=
 match mem[n]? with
 | some b => !b.cs.isDead
 | none => false
/-- More names, of blocks that are spoken of still. -/
def addLive (mem : List Blk) (l : List Nat) : List Nat -> List Nat
 | [] => l
 | n :: ns => addLive mem (match alive mem n && !hasN n l with | true => l ++ [n] | false => l) ns
def blkNames (mem : List Blk) : List Nat -> List Nat
 | [] => []
 | n :: r => (match mem[n]? with | some b => b.cs.names | none => []) ++ blkNames mem r
/-- The blocks that are reached. -/
def reach (mem : List Blk) : Nat -> List Nat -> List Nat
 | 0, l => l
 | f + 1, l => reach mem f (addLive mem l (blkNames mem l))
def newNames (n : Nat) : List Nat -> List Nat
 | [] => []
 | i :: r => match Nat.blt i n with | true => newNames n r | false => i :: newNames n r
def upTo : Nat -> Nat -> List Nat
 | _, 0 => []
 | i, n + 1 => i :: upTo (i + 1) n
/-- Names of a callee in its caller's words: the blocks that went in, and those that come back besides. -/
def backSel (ns nn : List Nat) (base i : Nat) : Option Nat :=
 match Nat.blt i ns.length with
 | true => ns[i]?
 | false => (match posOf i nn 0 with | some j => some (base + j) | none => none)
def noArgs : List Blk -> Bool
 | [] => true
 | b :: r => !b.kind.isArg && noArgs r
/-- What came in to be read alone does so still; what did not, does not. -/
def sameArgs : List Blk -> List Blk -> Bool
 | [], _ => true
 | b :: r, c :: s => ((b.kind.isArg == c.kind.isArg) && (b.kind.isMat == c.kind.isMat)) && sameArgs r s
 | _ :: _, [] => false
/-- A call: the blocks that its arguments reach (and 'ex' besides) go in and come back, with those that its result reaches besides. -/
def vcall (ex : List Nat) (S : VSpec) (args : List V) (mem : List Blk) (k : V -> List Blk -> Prop) : Prop :=
 let ns := addLive mem (reach mem 3 (addLive mem [] (namesL args))) ex
 match pickMem mem ns with
 | none => False
 | some m =>
  S (selL (fun n => posOf n ns 0) args) (selBlks (fun n => posOf n ns 0) m) fun v m' =>
   let nn := newNames ns.length (reach m' 3 (addLive m' [] (v.names ++ blkNames m' (upTo 0 ns.length))))
   match pickMem m' nn with
   | none => False
   | some extra =>
    match sameArgs m m' && noArgs extra with
    | true => k (v.sel (backSel ns nn mem.length)) (updMem mem ns (selBlks (backSel ns nn mem.length) (m'.take ns.length)) ++ selBlks (backSel ns nn mem.length) extra)
    | false => False

/-! ### rows that are parts of others, handed over -/
/-- Such a part as a block, and whether what it is of is the call's own. -/
def viewOf (mem : List Blk) (w : Bool) : V -> Option (Nat × Nat × Blk × Bool × Nat)
 | .inr b i n =>
  (match mem[b]? with
  | some ⟨.mat kd et l, _, r⟩ => (match r.isMat, w && !r.isArg with
   | true, true => some (b, n, ⟨.ints kd (l.getD i []), et, .row⟩, true, i)
   | true, false => some (b, n, ⟨.ints kd (l.getD i []), et, .arg 1⟩, !r.isArg, i)
   | false, _ => none)
  | _ => none)
 | .view b o sz n _ =>
  (match mem[b]? with
  | some ⟨.ints kd l, e, r⟩ => (match r.rowish sz with | true => some (b, n, ⟨.ints kd ((l.drop (o * sz)).take (n * sz)), e, .arg sz⟩, !r.isArg, 0) | false => none)
  | some ⟨.recs sh l, e, r⟩ => (match r.rowish sz && Nat.beq sh.length sz with | true => some (b, n, ⟨.recs sh ((l.drop (o * sz)).take (n * sz)), e, .arg sz⟩, !r.isArg, 0) | false => none)
  | some ⟨.strs l, e, .row⟩ => (match sz with | 1 => some (b, n, ⟨.strs ((l.drop o).take n), e, .arg 1⟩, true, 0) | _ => none)
  | _ => none)
 | _ => none
/-- Arguments that are parts of rows become rows, named from N on, in structs too: the arguments, and of each part what it is of, and its block. -/
def viewOne (mem : List Blk) (w : Bool) (N : Nat) (v : V) : V × List (Nat × Blk × Bool × Nat) :=
 match viewOf mem w v with
 | none => (v, [])
 | some (b, n, blk, own) => (.row N n, [(b, blk, own)])
def viewTwo (p : V × List (Nat × Blk × Bool × Nat)) (q : Nat -> List V × List (Nat × Blk × Bool × Nat)) (N : Nat) : List V × List (Nat × Blk × Bool × Nat) :=
 match p with
 | (v, []) => (v :: (q N).1, (q N).2)
 | (v, l) => (v :: (q (N + l.length)).1, l ++ (q (N + l.length)).2)
mutual
def viewV (mem : List Blk) (w : Bool) : Nat -> V -> V × List (Nat × Blk × Bool × Nat)
 | N, .agg cs => (.agg (viewAll mem w N cs).1, (viewAll mem w N cs).2)
 | N, v => viewOne mem w N v
def viewAll (mem : List Blk) (w : Bool) : Nat -> List V -> List V × List (Nat × Blk × Bool × Nat)
 | _, [] => ([], [])
 | N, v :: r => viewTwo (viewV mem w N v) (fun M => viewAll mem w M r) N
end
theorem viewTwo_eq (p : V × List (Nat × Blk × Bool × Nat)) (q : Nat -> List V × List (Nat × Blk × Bool × Nat)) (N : Nat) : viewTwo p q N = (p.1 :: (q (N + p.2.length)).1, p.2 ++ (q (N + p.2.length)).2) := by
 obtain ⟨v, l⟩ := p
 cases l <;> rfl
def killB (mem : List Blk) (b : Nat) : List Blk :=
 match mem[b]? with
 | none => mem
 | some blk => mem.set b ⟨.dead, blk.elem, blk.kind⟩
/-- What parts are handed over of may not be reached otherwise, where it may be written. -/
def killL (mem : List Blk) : List (Nat × Blk × Bool × Nat) -> List Blk
 | [] => mem
 | (b, _, own) :: r => match own.1 with | true => killL (killB mem b) r | false => killL mem r
def viewBlks : List (Nat × Blk × Bool × Nat) -> List Blk
 | [] => []
 | (_, blk, _) :: r => blk :: viewBlks r
/-- It is there again. -/
def backL (mem : List Blk) : List (Nat × Blk × Bool × Nat) -> List Blk -> List Blk
 | [], m => m
 | (b, _, own) :: r, m => match own.1, mem[b]? with | true, some blk => backL mem r (m.set b blk) | _, _ => backL mem r m
def killFrom : Nat -> Nat -> List Blk -> List Blk
 | _, 0, m => m
 | N, n + 1, m => killFrom (N + 1) n (killB m N)
/-- Calls of these functions write into rows that are handed over. -/
def lends (P : Program) (g : FuncId) : Bool :=
 match P.funcs[g]? with
 | some fn => fn.name == "loop.example/g01276/laws.markIntS"
 | none => false
/-- The blocks of the program's variables. -/
def glNames : List Blk -> Nat -> List Nat
 | [], _ => []
 | b :: r, i => (match b.kind with | .gl _ => i :: glNames r (i + 1) | _ => glNames r (i + 1))
def nameIn (s : String) : List String -> Bool
 | [] => false
 | n :: r => (match s == n with | true => true | false => nameIn s r)
/-- Calls of these functions read a variable of the program's. -/
def glFns : List String :=
 ["loop.example/g01276/impl.quartersOfTurn", "loop.example/g01276/impl.RowOf", "loop.example/g01276/impl.LoopOfScene", "loop.example/g01276/impl.ParseTable", "loop.example/g01276/impl.SceneAfter", "loop.example/g01276/impl.PaintedAfter", "loop.example/g01276/impl.RenameTints", "loop.example/g01276/impl.IsTable", "loop.example/g01276/impl.StepScene", "loop.example/g01276/impl.UndoScene", "loop.example/g01276/impl.CanUndo", "loop.example/g01276/impl.TableText", "loop.example/g01276/impl.IsScene", "loop.example/g01276/impl.EmptyScene", "loop.example/g01276/impl.RenameStates", "loop.example/g01276/impl.StatesReached", "loop.example/g01276/impl.MirrorTable", "(loop.example/g01276/impl.actor).goOn", "(loop.example/g01276/impl.actor).goBack", "loop.example/g01276/impl.played", "loop.example/g01276/impl.IsTaste", "loop.example/g01276/impl.WormAfter", "loop.example/g01276/impl.EatLine", "loop.example/g01276/impl.lived", "loop.example/g01276/impl.LifeOf", "loop.example/g01276/impl.DeathOf", "loop.example/g01276/impl.TrackOfWorm", "loop.example/g01276/impl.MealsOfWorm", "loop.example/g01276/impl.LongestLife"]
/-- Calls that read none. -/
def noGl (P : Program) (g : FuncId) : Bool :=
 match P.funcs[g]? with
 | some fn => !nameIn fn.name glFns
 | none => true
def glEx (P : Program) (g : FuncId) (mem : List Blk) : List Nat :=
 match glNames mem 0 with
 | [] => []
 | ns => (match P.funcs[g]? with
  | some fn => (match nameIn fn.name glFns with | true => ns | false => [])
  | none => [])
/-- What came in is as it was still, nothing comes to life again, and what is new is the call's own. -/
def sameView : List Blk -> List Blk -> Bool
 | [], r => noArgs r
 | b :: r, c :: s => ((b.kind.isArg == c.kind.isArg) && (b.kind.isMat == c.kind.isMat) && (!b.cs.isDead || c.cs.isDead)) && sameView r s
 | _ :: _, [] => false
/-- The row that was lent, as it came back. -/
def backRow (mem : List Blk) (i : Nat) (b : Nat) (m : List Blk) (k : List Blk -> Prop) : Prop :=
 match mem[b]?, m[mem.length]? with
 | some ⟨.mat kd et l, e, .mat⟩, some ⟨.ints kd' l', et', .row⟩ =>
  (match decide (kd = kd') && Nat.beq et et' with
  | true => At (l'.length = (l.getD i []).length) /\ k ((killB m mem.length).set b ⟨.mat kd et (l.set i l'), e, .mat⟩)
  | false => False)
 | _, _ => False
/-- The only part that is handed over is a row that may be written. -/
def lentOne : List (Nat × Blk × Bool × Nat) -> Option (Nat × Nat)
 | [(b, ⟨.ints _ _, _, .row⟩, true, i)] => some (b, i)
 | _ => none
def allArgs : List (Nat × Blk × Bool × Nat) -> Bool
 | [] => true
 | (_, blk, _) :: r => blk.kind.isArg && allArgs r
def vcallV (ex : List Nat) (w : Bool) (S : VSpec) (args : List V) (mem : List Blk) (k : V -> List Blk -> Prop) : Prop :=
 match (viewAll mem w mem.length args).2 with
 | [] => vcall ex S args mem k
 | _ :: _ =>
  match allArgs (viewAll mem w mem.length args).2 with
  | true =>
   vcall ex S (viewAll mem w mem.length args).1 (killL mem (viewAll mem w mem.length args).2 ++ viewBlks (viewAll mem w mem.length args).2) fun v m =>
    match sameView (killL mem (viewAll mem w mem.length args).2 ++ viewBlks (viewAll mem w mem.length args).2) m with
    | true => k v (backL mem (viewAll mem w mem.length args).2 (killFrom mem.length (viewAll mem w mem.length args).2.length m))
    | false => False
  | false =>
   match lentOne (viewAll mem w mem.length args).2 with
   | some (b, i) =>
    vcall ex S (viewAll mem w mem.length args).1 (killL mem (viewAll mem w mem.length args).2 ++ viewBlks (viewAll mem w mem.length args).2) fun v m =>
     match sameView (killL mem (viewAll mem w mem.length args).2 ++ viewBlks (viewAll mem w mem.length args).2) m with
     | true => backRow mem i b m (k v)
     | false => False
   | none => False
/-- Calls of these functions hand parts of rows on as they are. -/
def passes (P : Program) (g : FuncId) : Bool :=
 match P.funcs[g]? with
 | some fn => fn.name == "loop.example/g01276/spec.pzWith"
 | none => false
def vcallW (t : Bool) (ex : List Nat) (w : Bool) (S : VSpec) (args : List V) (mem : List Blk) (k : V -> List Blk -> Prop) : Prop :=
 match t with
 | true => vcall ex S args mem k
 | false => vcallV ex w S args mem k
def isCell : V -> Bool
 | .undef => false
 | .arr _ _ => false
 | .agg _ => false
 | .tup _ => false
 | .raw x => (match x with | .agg _ => false | .tuple _ => false | _ => true)
 | _ => true
def allCells : List V -> Bool
 | [] => true
 | v :: vs => isCell v && allCells vs
def St.new (st : St) (dst : Option Tmp) (cs : List V) (e : TypeId) : St :=
 St.put { st with mem := st.mem ++ [⟨.vals cs, e, .box⟩] } dst (.ptr st.mem.length 0)

/-- The zeros of an array of bytes in a row of cells. -/
def isZ8 : V -> Bool
 | .int .u8 n => (match n with | .ofNat 0 => true | _ => false)
 | _ => false
def zerosPre : List V -> List V
 | [] => []
 | v :: r => (match isZ8 v with | true => [] | false => v :: zerosPre r)
def zerosRun : List V -> Nat
 | [] => 0
 | v :: r => (match isZ8 v with | true => zerosRun r + 1 | false => 0)
def dropN : Nat -> List V -> List V
 | 0, l => l
 | _ + 1, [] => []
 | n + 1, _ :: r => dropN n r
/-- A number, told by counting. -/
def smallN : Nat -> Nat -> (Nat -> Prop) -> Prop
 | 0, n, k => k n
 | _ + 1, n, k => match Nat.beq n 81 with | true => k 81 | false => smallN 0 n k
def mixOf (cs : List V) (k : Cells -> Prop) : Prop :=
 match Nat.ble 17 (zerosRun (dropN (zerosPre cs).length cs)) with
 | true => smallN 1 (zerosRun (dropN (zerosPre cs).length cs)) fun n => k (.mix (zerosPre cs) n [] (dropN n (dropN (zerosPre cs).length cs)))
 | false => k (.vals cs)
/-- Where a struct's array of numbers is. -/
def firstArr (g : TypeId -> Option (Nat × Nat)) : List Field -> Option (Nat × Nat)
 | [] => none
 | fl :: r =>
  match g fl.type with
  | some (o, n) => some (fl.offset + o, n)
  | none => firstArr g r
def intArr (P : Program) : Nat -> TypeId -> Option (Nat × Nat)
 | 0, _ => none
 | f + 1, t =>
  match bigInts P t with
  | some n => some (0, n)
  | none =>
   match P.underlying t with
   | some (.struct fs) => firstArr (intArr P f) fs.toList
   | _ => none
def intsOf (kd : IntKind) : List V -> Option (List Int)
 | [] => some []
 | v :: r =>
  match v with
  | .int k n => (match decide (k = kd), intsOf kd r with | true, some l => some (n :: l) | _, _ => none)
  | _ => none
def takeN : Nat -> List V -> List V
 | 0, _ => []
 | _ + 1, [] => []
 | n + 1, v :: r => v :: takeN n r
/-- A new box, told by its type: an array of numbers in it is told as one. -/
def mixOfT (P : Program) (e : TypeId) (cs : List V) (k : Cells -> Prop) : Prop :=
 match intArr P 4 e with
 | none => mixOf cs k
 | some (o, n) =>
  match intsOf .i64 (takeN n (dropN o cs)) with
  | some l => lit16 n fun n' => (match Nat.beq l.length n' && Nat.beq (takeN o cs).length o with | true => k (.mixi (takeN o cs) n' l (dropN n' (dropN o cs))) | false => False)
  | none => False
def St.newC (st : St) (dst : Option Tmp) (c : Cells) (e : TypeId) : St :=
 St.put { st with mem := st.mem ++ [⟨c, e, .box⟩] } dst (.ptr st.mem.length 0)
def setScs : List Sc -> Nat -> List Sc -> List Sc
 | old, _, [] => old
 | old, o, n :: ns => setScs (old.set o n) (o + 1) ns
def scOf : Sh -> V -> Option Sc
 | .int k, .int k' n => (match decide (k = k') with | true => some ⟨n, []⟩ | false => none)
 | .str, .str s => some ⟨0, s⟩
 | _, _ => none
def scsOf (sh : List Sh) : Nat -> List V -> Option (List Sc)
 | _, [] => some []
 | j, v :: r =>
  match scOf (shAt sh j) v, scsOf sh (j + 1) r with
  | some c, some l => some (c :: l)
  | _, _ => none
def setInts : List Int -> Nat -> List Int -> List Int
 | old, _, [] => old
 | old, o, n :: ns => setInts (old.set o n) (o + 1) ns
def vstore (P : Program) (mem : List Blk) (t : TypeId) (b o : Nat) (v : V) (k : List Blk -> Prop) : Prop :=
 match mem[b]? with
 | none => False
 | some blk =>
  match blk.kind.isArg with
  | true => False
  | false =>
  match blk.cs with
  | .vals old =>
   (match cellsOfV v with
   | none => False
   | some vs =>
    match P.info? t with
    | none => False
    | some i => if (vs.length = i.size /\ o + vs.length <= old.length /\ allCells vs = true) then k (mem.set b { blk with cs := .vals (setCells old o vs) }) else False)
  | .ints kd l =>
   (match v with
   | .int kd' n => (match P.info? t with | none => False | some i => if (i.size = 1 /\ kd = kd') then At (o < l.length) /\ k (mem.set b { blk with cs := .ints kd (l.set o n) }) else False)
   | .agg vs => (match P.info? t, intsOf kd vs with
    | some i, some l' => if (vs.length = i.size) then At (o + l'.length <= l.length) /\ k (mem.set b { blk with cs := .ints kd (setInts l o l') }) else False
    | _, _ => False)
   | _ => False)
  | .bytes l =>
   (match v with
   | .int .u8 n => (match P.info? t with | none => False | some i => if (i.size = 1) then At (o < l.length /\ 0 <= n /\ n < 256) /\ k (mem.set b { blk with cs := .bytes (l.set o (UInt8.ofNat n.toNat)) }) else False)
   | _ => False)
  | .strs l =>
   (match v with
   | .str s => (match P.info? t with | none => False | some i => if (i.size = 1) then At (o < l.length) /\ k (mem.set b { blk with cs := .strs (l.set o s) }) else False)
   | _ => False)
  | .bools l =>
   (match asB v with
   | some s => (match P.info? t with | none => False | some i => if (i.size = 1) then At (o < l.length) /\ k (mem.set b { blk with cs := .bools (l.set o s) }) else False)
   | none => False)
  | .map _ => False
  | .mat _ _ _ => False
  | .recs sh l =>
   (match v with
   | .int kd n => (match P.info? t with | none => False | some i => if (i.size = 1) then At (o < l.length /\ shAt sh o = .int kd) /\ k (mem.set b { blk with cs := .recs sh (l.set o ⟨n, []⟩) }) else False)
   | .str s => (match P.info? t with | none => False | some i => if (i.size = 1) then At (o < l.length /\ shAt sh o = .str) /\ k (mem.set b { blk with cs := .recs sh (l.set o ⟨0, s⟩) }) else False)
   | .agg vs => (match P.info? t, scsOf sh 0 vs with
    | some i, some l' => if (vs.length = i.size /\ i.size = sh.length) then lit16 i.size fun sz => At (o + sz <= l.length /\ o % sz = 0) /\ k (mem.set b { blk with cs := .recs sh (setScs l o l') }) else False
    | _, _ => False)
   | _ => False)
  | .mixi a n l z =>
   (match cellsOfV v with
   | none => False
   | some vs =>
    match P.info? t with
    | none => False
    | some i =>
     match bigInts P t with
     | some c => (match intsOf .i64 vs with
      | some l' => if (vs.length = i.size /\ i.size = n /\ c = n /\ o = a.length) then k (mem.set b { blk with cs := .mixi a n l' z }) else False
      | none => False)
     | none =>
     match Nat.ble (a.length + n) o with
     | true => if (vs.length = i.size /\ o - (a.length + n) + vs.length <= z.length /\ allCells vs = true) then k (mem.set b { blk with cs := .mixi a n l (setCells z (o - (a.length + n)) vs) }) else False
     | false => if (vs.length = i.size /\ o + vs.length <= a.length /\ allCells vs = true) then k (mem.set b { blk with cs := .mixi (setCells a o vs) n l z }) else False)
  | .mix a n l z =>
   (match v with
   | .arr m l' => (match P.info? t with | none => False | some i => if (i.size = n /\ o = a.length /\ m = n) then k (mem.set b { blk with cs := .mix a n l' z }) else False)
   | _ =>
   match cellsOfV v with
   | none => False
   | some vs =>
    match P.info? t with
    | none => False
    | some i =>
     match Nat.ble (a.length + n) o with
     | true => if (vs.length = i.size /\ o - (a.length + n) + vs.length <= z.length /\ allCells vs = true) then k (mem.set b { blk with cs := .mix a n l (setCells z (o - (a.length + n)) vs) }) else False
     | false => if (vs.length = i.size /\ o + vs.length <= a.length /\ allCells vs = true) then k (mem.set b { blk with cs := .mix (setCells a o vs) n l z }) else False)
  | .dead => False
/-- A number of a row of a row of rows stored. -/
def vstoreInr (P : Program) (mem : List Blk) (t : TypeId) (b i j : Nat) (v : V) (k : List Blk -> Prop) : Prop :=
 match mem[b]? with
 | none => False
 | some blk =>
  match blk.kind, blk.cs, v with
  | .mat, .mat kd et l, .int kd' x =>
   (match P.info? t with
   | none => False
   | some inf => if (inf.size = 1 /\ kd = kd') then At (i < l.length /\ j < (l.getD i []).length) /\ k (mem.set b { blk with cs := .mat kd et (l.set i ((l.getD i []).set j x)) }) else False)
  | _, _, _ => False
/-! ### a row stored into a row of rows: this gets a new name -/
mutual
def V.ren (b N : Nat) : V -> V
 | .ptr a o => (match Nat.beq a b with | true => .ptr N o | false => .ptr a o)
 | .row a n => (match Nat.beq a b with | true => .row N n | false => .row a n)
 | .agg cs => .agg (renL b N cs)
 | .tup cs => .tup (renL b N cs)
 | v => v
def renL (b N : Nat) : List V -> List V
 | [] => []
 | v :: vs => v.ren b N :: renL b N vs
end
def Cells.ren (b N : Nat) : Cells -> Cells
 | .vals vs => .vals (renL b N vs)
 | c => c
def renM (b N : Nat) : List Blk -> List Blk
 | [] => []
 | x :: r => ⟨x.cs.ren b N, x.elem, x.kind⟩ :: renM b N r
/-- A block that may be stored into a row of rows. -/
def isMatB (mem : List Blk) (b : Nat) : Bool :=
 match mem[b]? with
 | some ⟨.mat _ _ _, _, .mat⟩ => true
 | _ => false
def vstoreRow (P : Program) (st : St) (t : TypeId) (b i : Nat) (v : V) (k : St -> Prop) : Prop :=
 match v with
 | .row c n =>
  (match st.mem[b]?, st.mem[c]?, P.info? t with
  | some ⟨.mat kd et l, e, .mat⟩, some ⟨.ints kd' row, e', .row⟩, some inf =>
   if (kd = kd' /\ et = e' /\ inf.size = 1) then At (i < l.length /\ row.length = n) /\
    k ⟨renL b st.mem.length st.slots, renM b st.mem.length ((st.mem.set b ⟨.dead, e, .mat⟩).set c ⟨.dead, e', .row⟩) ++ [⟨.mat kd et (l.set i row), e, .mat⟩]⟩ else False
  | _, _, _ => False)
 | _ => False
/-- A byte of an array of them stored. -/
def vstoreElt (P : Program) (mem : List Blk) (t : TypeId) (b o n j : Nat) (v : V) (k : List Blk -> Prop) : Prop :=
 match mem[b]? with
 | none => False
 | some blk =>
  match blk.kind.isArg, blk.cs, v with
  | false, .mix a m l z, .int .u8 x =>
   (match P.info? t with
   | none => False
   | some i => if (i.size = 1 /\ o = a.length /\ n = m) then At (0 <= x /\ x < 256) /\ k (mem.set b { blk with cs := .mix a m ((padB m l).set j (UInt8.ofNat x.toNat)) z }) else False)
  | false, .mixi a m l z, .int .i64 x =>
   (match P.info? t with
   | none => False
   | some i => if (i.size = 1 /\ o = a.length /\ n = m) then k (mem.set b { blk with cs := .mixi a m ((padI m l).set j x) z }) else False)
  | _, _, _ => False
/-- copy(b, s), b a part of an array of bytes. -/
def cpB (n : Nat) (l : List UInt8) (m : Nat) (s : List UInt8) : List UInt8 := s.take m ++ (padB n l).drop (s.take m).length
def vcopy (P : Program) (mem : List Blk) (t : TypeId) (b o n m : Nat) (s : List UInt8) (k : Int -> List Blk -> Prop) : Prop :=
 match mem[b]?, P.underlying t with
 | some blk, some (.slice e) =>
  (match blk.kind.isArg, blk.cs, P.info? e with
  | false, .mix a n' l z, some i =>
   if (i.size = 1 /\ o = a.length /\ n = n') then k ((s.take m).length : Nat) (mem.set b { blk with cs := .mix a n' (cpB n' l m s) z }) else False
  | _, _, _ => False)
 | _, _ => False

/-- What lies side by side, and how many elements of it are told. -/
def srcOf (mem : List Blk) (x : V) : Option (Cells × Nat) :=
 match x with
 | .row b m => (match mem[b]? with | some blk => some (blk.cs, m) | none => none)
 | .inr b i n => (match mem[b]? with | some ⟨.mat kd _ l, _, r⟩ => (match r.isMat with | true => some (.ints kd (l.getD i []), n) | false => none) | _ => none)
 | .sub b o n m => (match mem[b]? with | some ⟨.mixi a n' l _, _, _⟩ => if (o = a.length /\ n = n') then some (.ints .i64 (padI n l), m) else none | _ => none)
 | .view b o sz n _ =>
  (match mem[b]? with
  | some ⟨.ints kd l, _, r⟩ => (match r.isMat with | false => some (.ints kd (l.drop (o * sz)), n) | true => none)
  | some ⟨.strs l, _, r⟩ => (match r.isMat with | false => some (.strs (l.drop (o * sz)), n) | true => none)
  | some ⟨.recs sh l, _, r⟩ => (match r.isMat, Nat.beq sh.length sz with | false, true => some (.recs sh (l.drop (o * sz)), n) | _, _ => none)
  | _ => none)
 | _ => none
/-- copy(b, s), b a part of an array of numbers, s a row of them. -/
def cpI (n : Nat) (l : List Int) (m : Nat) (s : List Int) : List Int := s.take m ++ (padI n l).drop (s.take m).length
def vcopyI (P : Program) (mem : List Blk) (t : TypeId) (b o n m : Nat) (x : V) (k : Int -> List Blk -> Prop) : Prop :=
 match mem[b]?, P.underlying t, srcOf mem x with
 | some blk, some (.slice e), some (.ints .i64 s, c) =>
  (match blk.kind.isArg, blk.cs, P.info? e with
  | false, .mixi a n' l z, some i =>
   if (i.size = 1 /\ o = a.length /\ n = n') then At (s.length = c) /\ k ((s.take m).length : Nat) (mem.set b { blk with cs := .mixi a n' (cpI n' l m s) z }) else False
  | _, _, _ => False)
 | _, _, _ => False

def Kind.rowOf (k : Kind) (sz : Nat) : Bool :=
 match k with
 | .row => Nat.beq sz 1
 | .rows s => Nat.beq s sz
 | _ => false
/-- What a row holds behind a copy of so many elements of another into it: what is asked of the two, and that. -/
def Cells.cpy (sz o c m : Nat) (a b : Cells) : Option (Prop × Cells) :=
 match a, b with
 | .ints k l, .ints k' l' => (match decide (k = k') with | true => some (m * sz <= l'.length /\ (o + c) * sz <= l.length, .ints k (l.take (o * sz) ++ l'.take (c * sz) ++ l.drop ((o + c) * sz))) | false => none)
 | .bytes l, .bytes l' => some (m * sz <= l'.length /\ (o + c) * sz <= l.length, .bytes (l.take (o * sz) ++ l'.take (c * sz) ++ l.drop ((o + c) * sz)))
 | .strs l, .strs l' => some (m * sz <= l'.length /\ (o + c) * sz <= l.length, .strs (l.take (o * sz) ++ l'.take (c * sz) ++ l.drop ((o + c) * sz)))
 | .recs sh l, .recs sh' l' => (match decide (sh = sh') && Nat.beq sh.length sz with | true => some (m * sz <= l'.length /\ (o + c) * sz <= l.length, .recs sh (l.take (o * sz) ++ l'.take (c * sz) ++ l.drop ((o + c) * sz))) | false => none)
 | _, _ => none
def sizeIs (sv : Option Nat) (sz : Nat) : Bool :=
 match sv with
 | none => true
 | some s => Nat.beq s sz
/-- copy(b, x), b a row of the call's own or a part of one, n elements from o on; x side by side. -/
def vcopyR (P : Program) (mem : List Blk) (t : TypeId) (b o n : Nat) (sv : Option Nat) (x : V) (k : Int -> List Blk -> Prop) : Prop :=
 match mem[b]?, P.underlying t, srcOf mem x with
 | some blk, some (.slice e), some (cs', m) =>
  (match blk.kind.isArg, P.info? e with
  | false, some i => withSize i.size fun sz =>
   (match blk.kind.rowOf sz && sizeIs sv sz, Cells.cpy sz o (Nat.min m n) m blk.cs cs' with
   | true, some (p, cs) => At p /\ k (Nat.min m n : Nat) (mem.set b { blk with cs := cs })
   | _, _ => False)
  | _, _ => False)
 | _, _, _ => False

def zeroCells (P : Program) (t : TypeId) : Option (List V) :=
 match P.info? t with
 | none => none
 | some i => (match i.zero with | none => none | some z => some (cellsV z.cells.toList))

def evL (st : St) : List Operand -> List V
 | [] => []
 | x :: xs => ev st x :: evL st xs

/-- []byte(s) -/
def vbytes (P : Program) (src dst : TypeId) (s : List UInt8) (k : TypeId -> Prop) : Prop :=
 match P.underlying src, P.underlying dst with
 | some .string, some (.slice e) => (match P.underlying e with | some (.int .u8) => At (s.length <= 9223372036854775807) /\ k e | _ => False)
 | _, _ => False
/-- The zero of a row, which is none, of integers. -/
def matZero (P : Program) (e : TypeId) (z : Value) : Option (IntKind × TypeId) :=
 match z with
 | .slice none 0 0 =>
  (match P.underlying e with
  | some (.slice et) => (match P.underlying et with | some (.int kd) => some (kd, et) | _ => none)
  | _ => none)
 | _ => none
/-- The zeros of a new row. -/
def zerosOf (z : Value) (n : Nat) : Option Cells :=
 match z with
 | .int .u8 0 => some (.bytes (List.replicate n 0))
 | .int kd 0 => some (.ints kd (List.replicate n 0))
 | .string s => if s.size = 0 then some (.strs (List.replicate n [])) else none
 | .bool b => (match b with | false => some (.bools (List.replicate n false)) | true => none)
 | _ => none
/-- The zero of a struct of integers of one kind. -/
def zeroKind : List Value -> Option IntKind
 | [] => none
 | x :: r =>
  match x with
  | .int kd 0 =>
   (match r with
   | [] => some kd
   | _ => (match zeroKind r with
    | some kd' => (match decide (kd = kd') with | true => some kd | false => none)
    | none => none))
  | _ => none
/-- The zero of a struct of numbers and texts. -/
def shZ : List Value -> Option (List Sh)
 | [] => some []
 | x :: r =>
  match x with
  | .int kd 0 => (match shZ r with | some sh => some (.int kd :: sh) | none => none)
  | .string s => (match Nat.beq s.size 0, shZ r with | true, some sh => some (.str :: sh) | _, _ => none)
  | _ => none
def rowKind (sz : Nat) : Kind :=
 match sz with
 | 1 => .row
 | s => .rows s
def vmake (P : Program) (t : TypeId) (l m : V) (k : Nat -> Cells -> TypeId -> Kind -> Prop) : Prop :=
 match l, m with
 | .int _ n, .int _ c =>
  (match P.underlying t with
  | some (.slice e) =>
   (match P.info? e with
   | none => False
   | some i => (match i.zero with
    | none => False
    | some z => (match zerosOf z n.toNat with
     | none => (match zeroKind z.cells.toList with
      | none => (match matZero P e z with
       | none => (match shZ z.cells.toList with
        | none => False
        | some sh => withSize i.size fun sz => if (z.cells.size = sz /\ i.bytes <= 64) then At (0 <= n /\ n <= c /\ c <= 1000000000) /\ k n.toNat (.recs sh (List.replicate (n.toNat * sz) ⟨0, []⟩)) e (rowKind sz) else False)
       | some (kd, et) => if (i.size = 1 /\ i.bytes <= 64) then At (0 <= n /\ n <= c /\ c <= 1000000000) /\ k n.toNat (.mat kd et (List.replicate n.toNat [])) e .mat else False)
      | some kd => withSize i.size fun sz => if (z.cells.size = sz /\ i.bytes <= 64) then At (0 <= n /\ n <= c /\ c <= 1000000000) /\ k n.toNat (.ints kd (List.replicate (n.toNat * sz) 0)) e (rowKind sz) else False)
     | some cs => if (i.size = 1 /\ i.bytes <= 64) then At (0 <= n /\ n <= c /\ c <= 1000000000) /\ k n.toNat cs e .row else False)))
  | _ => False)
 | _, _ => False
/-- The parts of a row stand in their order. -/
def inOrder : Nat -> List (Nat × Operand) -> Bool
 | _, [] => true
 | k, p :: r => Nat.beq p.1 k && inOrder (k + 1) r
def bytesOf : List V -> Option (List Int)
 | [] => some []
 | v :: r =>
  match v with
  | .int .u8 n => (match bytesOf r with | some l => some (n :: l) | none => none)
  | _ => none
/-- []byte{..} -/
def vbuildS (P : Program) (t : TypeId) (len : Nat) (parts : List (Nat × Operand)) (vs : List V) (k : List UInt8 -> TypeId -> Prop) : Prop :=
 match P.underlying t with
 | some (.slice e) =>
  (match P.info? e with
  | none => False
  | some i => (match i.zero with
   | none => False
   | some _ => (match bytesOf vs with
    | none => False
    | some ns => if (i.size = 1 /\ inOrder 0 parts = true /\ ns.length = len /\ 0 < len /\ len <= 16777216) then At (∀ n ∈ ns, 0 <= n /\ n < 256) /\ k (ns.map fun n => UInt8.ofNat n.toNat) e else False)))
 | _ => False
/-! ### literals of other elements -/
def strsOf : List V -> Option (List (List UInt8))
 | [] => some []
 | v :: r =>
  match v with
  | .str s => (match strsOf r with | some l => some (s :: l) | none => none)
  | _ => none
def packCells (cs : List V) : Option Cells :=
 match cs with
 | .int .u8 _ :: _ => none
 | .int kd n :: r => (match intsOf kd (.int kd n :: r) with | some l => some (.ints kd l) | none => none)
 | .str s :: r => (match strsOf (.str s :: r) with | some l => some (.strs l) | none => none)
 | .row b n :: r => (match r with | [] => some (.vals [.row b n]) | _ => none)
 | _ => none
def shsOf : List V -> Option (List Sh)
 | [] => some []
 | v :: r =>
  match v with
  | .int kd _ => (match shsOf r with | some sh => some (.int kd :: sh) | none => none)
  | .str _ => (match shsOf r with | some sh => some (.str :: sh) | none => none)
  | _ => none
def packRecs (sz : Nat) (cs : List V) : Option Cells :=
 match shsOf (takeN sz cs) with
 | none => none
 | some sh => (match scsOf sh 0 cs with | some l => some (.recs sh l) | none => none)
def packAny (sz : Nat) (cs : List V) : Option Cells :=
 match packCells cs with
 | some c => some c
 | none => packRecs sz cs
/-- No elements: what they would be. -/
def emptyOf (z : Value) : Option Cells :=
 match zerosOf z 0 with
 | some c => some c
 | none => (match zeroKind z.cells.toList with
  | some kd => some (.ints kd [])
  | none => (match shZ z.cells.toList with | some sh => some (.recs sh []) | none => none))
/-- []T{} -/
def vbuild0 (P : Program) (t : TypeId) (parts : List (Nat × Operand)) (k : Cells -> TypeId -> Kind -> Prop) : Prop :=
 match P.underlying t, parts with
 | some (.slice e), [] =>
  (match P.info? e with
  | none => False
  | some i => (match i.zero with
   | none => False
   | some z => (match emptyOf z with
    | none => False
    | some c => withSize i.size fun sz => k c e (rowKind sz))))
 | _, _ => False
/-- A slice literal: ints, texts, structs of these. -/
def vbuildG (P : Program) (t : TypeId) (len : Nat) (parts : List (Nat × V)) (k : Cells -> Nat -> TypeId -> Prop) : Prop :=
 match P.underlying t with
 | some (.slice e) =>
  (match P.info? e with
  | none => False
  | some i => (match i.zero with
   | none => False
   | some _ => (match fillV (arrPlaces i.size 0 len) parts (List.replicate (len * i.size) .undef) with
    | none => False
    | some cs => (match packAny i.size cs with
     | none => False
     | some c => if (0 < len * i.size /\ len * i.size <= 16777216) then k c i.size e else False))))
 | _ => False
/-! ### append -/
def Cells.app (sz n m : Nat) (a b : Cells) : Option (Prop × Cells) :=
 match a, b with
 | .bytes l, .bytes l' => some (l.length = n * sz /\ m * sz <= l'.length, .bytes (l ++ l'.take (m * sz)))
 | .ints k l, .ints k' l' => (match decide (k = k') with | true => some (l.length = n * sz /\ m * sz <= l'.length, .ints k (l ++ l'.take (m * sz))) | false => none)
 | .strs l, .strs l' => some (l.length = n * sz /\ m * sz <= l'.length, .strs (l ++ l'.take (m * sz)))
 | .bools l, .bools l' => some (l.length = n * sz /\ m * sz <= l'.length, .bools (l ++ l'.take (m * sz)))
 | .recs sh l, .recs sh' l' => (match decide (sh = sh') && Nat.beq sh.length sz with | true => some (l.length = n * sz /\ m * sz <= l'.length, .recs sh (l ++ l'.take (m * sz))) | false => none)
 | _, _ => none
def Cells.none0 : Cells -> Cells
 | .vals _ => .vals []
 | .ints k _ => .ints k []
 | .bytes _ => .bytes []
 | .strs _ => .strs []
 | .bools _ => .bools []
 | .map _ => .dead
 | .mat k e _ => .mat k e []
 | .mix _ _ _ _ => .dead
 | .mixi _ _ _ _ => .dead
 | .recs sh _ => .recs sh []
 | .dead => .dead
/-- The one row that is appended to a row of rows. -/
def matArg (mem : List Blk) (x : V) : Option (Nat × Nat) :=
 match x with
 | .row b n =>
  (match mem[b]? with
  | some ⟨.vals [.row c m], _, .row⟩ => (match Nat.beq n 1 with | true => some (c, m) | false => none)
  | _ => none)
 | _ => none
/-- append(s, x), s a row of rows of the call's own, or none, x a row of the call's own: it is a part of the new row of rows. -/
def vappendMat (P : Program) (t : TypeId) (mem : List Blk) (s : V) (c m : Nat) (k : Nat -> List Blk -> Prop) : Prop :=
 match mem[c]?, P.underlying t with
 | some ⟨.ints kd row, e', .row⟩, some (.slice e) =>
  (match P.info? e, P.underlying e with
  | some i, some (.slice et) =>
   (match i.zero with
   | some z =>
    (match s with
    | .row b n => (match mem[b]? with
     | some ⟨.mat kd' et' l, eb, .mat⟩ =>
      if (kd = kd' /\ et' = et /\ e' = et /\ eb = e /\ i.size = 1 /\ i.bytes <= 64 /\ z.cells.size = 1) then At (row.length = m /\ l.length = n /\ n + 1 <= 1000000000) /\ k (n + 1) ((mem.set b ⟨.dead, eb, .mat⟩).set c ⟨.dead, e', .row⟩ ++ [⟨.mat kd et (l ++ [row]), e, .mat⟩]) else False
     | _ => False)
    | .raw (.slice none 0 0) =>
     if (e' = et /\ i.size = 1 /\ i.bytes <= 64 /\ z.cells.size = 1) then At (row.length = m) /\ k 1 (mem.set c ⟨.dead, e', .row⟩ ++ [⟨.mat kd et [row], e, .mat⟩]) else False
    | _ => False)
   | none => False)
  | _, _ => False)
 | _, _ => False
/-- A literal of one row, assigned: it is a row of rows from now on. -/
def litMat (mem : List Blk) (v : V) : Option (Nat × Nat × Nat) :=
 match v with
 | .row b n => (match matArg mem (.row b n) with | some (c, m) => some (b, c, m) | none => none)
 | _ => none
def vassignMat (mem : List Blk) (b c m : Nat) (k : List Blk -> Prop) : Prop :=
 match mem[b]?, mem[c]? with
 | some ⟨_, e, _⟩, some ⟨.ints kd row, et, .row⟩ => At (row.length = m) /\ k ((mem.set b ⟨.dead, e, .row⟩).set c ⟨.dead, et, .row⟩ ++ [⟨.mat kd et [row], e, .mat⟩])
 | _, _ => False
/-- So many of them. -/
def Cells.cut (k : Nat) : Cells -> Cells
 | .ints kd l => .ints kd (l.take k)
 | .bytes l => .bytes (l.take k)
 | .strs l => .strs (l.take k)
 | .bools l => .bools (l.take k)
 | .recs sh l => .recs sh (l.take k)
 | _ => .dead
/-- Something is appended; to a row of structs perhaps nothing. -/
def posM (kd : Kind) (m : Nat) : Prop :=
 match kd with
 | .rows _ => True
 | _ => 0 < m
/-- append(s, x...), s a row of the call's own, or none: the old row dies, the new one is another. -/
def vappend (P : Program) (t : TypeId) (mem : List Blk) (s x : V) (k : Nat -> List Blk -> Prop) : Prop :=
 match srcOf mem x with
 | some (cs', m) =>
  (match P.underlying t with
  | some (.slice e) =>
   (match P.info? e with
   | none => False
   | some i => (match i.zero with
    | none => False
    | some z => withSize i.size fun sz =>
     match s with
     | .row b n =>
      (match mem[b]? with
      | none => False
      | some blk => (match Cells.app sz n m blk.cs cs' with
       | none => False
       | some (p, cs) => if (z.cells.size = sz /\ 0 < sz /\ i.bytes <= 64 /\ blk.elem = e /\ blk.kind.rowOf sz = true) then At (p /\ posM blk.kind m /\ n + m <= 1000000000) /\ k (n + m) (mem.set b ⟨.dead, blk.elem, blk.kind⟩ ++ [⟨cs, e, blk.kind⟩]) else False))
     | .raw (.slice none 0 0) =>
      (match Cells.app sz 0 m cs'.none0 cs' with
      | none => False
      | some (p, cs) => if (z.cells.size = sz /\ 0 < sz /\ i.bytes <= 64) then At (p /\ 0 < m /\ m <= 1000000000) /\ k m (mem ++ [⟨cs, e, rowKind sz⟩]) else False)
     | .view b o sz' n (some q) =>
      (match srcOf mem (.view b o sz' n (some q)) with
      | none => False
      | some (cs0, _) => (match Cells.app sz n m (cs0.cut (n * sz)) cs' with
       | none => False
       | some (p, cs) => if (z.cells.size = sz /\ 0 < sz /\ i.bytes <= 64) then At (q = n /\ p /\ 0 < m /\ n + m <= 1000000000) /\ k (n + m) (mem ++ [⟨cs, e, rowKind sz⟩]) else False))
     | .emp =>
      (match Cells.app sz 0 m cs'.none0 cs' with
      | none => False
      | some (p, cs) => if (z.cells.size = sz /\ 0 < sz /\ i.bytes <= 64) then At (p /\ 0 < m /\ m <= 1000000000) /\ k m (mem ++ [⟨cs, e, rowKind sz⟩]) else False)
     | _ => False))
  | _ => False)
 | none => False
/-- append(s, x...), x a text. -/
def vappendS (P : Program) (t t' : TypeId) (mem : List Blk) (s : V) (x : List UInt8) (k : Nat -> List Blk -> Prop) : Prop :=
 match P.underlying t, P.underlying t' with
 | some (.slice e), some .string =>
  (match P.info? e with
  | none => False
  | some i =>
   match i.zero with
   | some (.int .u8 0) => if (i.size = 1 /\ i.bytes = 1) then
     (match s with
     | .row b n => (match mem[b]? with
      | some ⟨.bytes l, eb, kd⟩ => if (eb = e /\ kd.rowOf 1 = true) then At (l.length = n /\ 0 < x.length /\ n + x.length <= 1000000000) /\ k (n + x.length) (mem.set b ⟨.dead, eb, kd⟩ ++ [⟨.bytes (l ++ x), e, kd⟩]) else False
      | _ => False)
     | .raw (.slice none 0 0) => At (0 < x.length /\ x.length <= 1000000000) /\ k x.length (mem ++ [⟨.bytes x, e, .row⟩])
     | _ => False) else False
   | _ => False)
 | _, _ => False
def St.row (st : St) (dst : Option Tmp) (n : Nat) (cs : Cells) (e : TypeId) (kd : Kind) : St :=
 St.put { st with mem := st.mem ++ [⟨cs, e, kd⟩] } dst (.row st.mem.length n)

def St.newMap (st : St) (dst : Option Tmp) (t : TypeId) : St :=
 St.put { st with mem := st.mem ++ [⟨.map [], t, .map⟩] } dst (.mp st.mem.length)
def St.newIter (st : St) (dst : Option Tmp) (t : TypeId) (s : List UInt8) : St :=
 St.put { st with mem := st.mem ++ [⟨.map [(.gp 0 0, .str s)], t, .map⟩] } dst (.ptr st.mem.length 0)
/-- The next byte of a text that is gone through. -/
def vnext (mem : List Blk) (it : V) (k : V -> List Blk -> Prop) : Prop :=
 match it with
 | .ptr b 0 =>
  (match mem[b]? with
  | some ⟨.map [(.gp n o, .str s)], e, .map⟩ =>
   (n < s.length -> At ((s.getD n 0).toNat < 128) /\ k (.tup [.lit true, .int .i64 n, .int .i32 (s.getD n 0).toNat]) (mem.set b ⟨.map [(.gp (n + 1) o, .str s)], e, .map⟩)) /\
   (¬ n < s.length -> k (.tup [.lit false]) mem)
  | _ => False)
 | _ => False
/-- One operation. -/
def vop (P : Program) (Ω : FuncId -> VSpec) (o : Oper) (st : St) (k : St -> Prop) : Prop :=
 match o.op with
 | .alloc e => (match zeroCells P e with | none => False | some cs => mixOfT P e cs fun c => k (st.newC o.dst c e))
 | .box e x => (match cellsOfV (ev st x) with | none => False | some cs => mixOfT P e cs fun c => k (st.newC o.dst c e))
 | .store t a x => (match ev st a with
  | .ptr b off => (match isMatB st.mem b with
   | true => vstoreRow P st t b off (ev st x) fun st' => k (st'.put o.dst .undef)
   | false => vstore P st.mem t b off (ev st x) fun m => k (St.put { st with mem := m } o.dst .undef))
  | .elt b off n j => vstoreElt P st.mem t b off n j (ev st x) fun m => k (St.put { st with mem := m } o.dst .undef)
  | .iptr b i j => vstoreInr P st.mem t b i j (ev st x) fun m => k (St.put { st with mem := m } o.dst .undef)
  | _ => False)
 | .assign x => (match litMat st.mem (ev st x) with
  | some (b, c, m) => vassignMat st.mem b c m fun mem => k (St.put { st with mem := mem } o.dst (.row st.mem.length 1))
  | none => vval P st o.op fun v => k (st.put o.dst v))
 | .call c =>
  (match c.callee with
  | .value f => (match ev st f with
   | .fn g caps => vcallW (passes P g) (glEx P g st.mem) (lends P g) (Ω g) (evL st c.args.toList ++ caps.map fun b => V.ptr b 0) st.mem fun v m => k (St.put { st with mem := m } o.dst v)
   | _ => False)
  | .builtin .append =>
   (match c.args.toList, c.argTypes.toList with
   | [s, x], [t, t'] => (match Nat.beq t t' with
    | true => (match matArg st.mem (ev st x) with
     | some (cc, m) => vappendMat P t st.mem (ev st s) cc m fun n m => k (St.put { st with mem := m } o.dst (.row st.mem.length n))
     | none => vappend P t st.mem (ev st s) (ev st x) fun n m => k (St.put { st with mem := m } o.dst (.row st.mem.length n)))
    | false => (match ev st x with
     | .str q => vappendS P t t' st.mem (ev st s) q fun n m => k (St.put { st with mem := m } o.dst (.row st.mem.length n))
     | _ => False))
   | _, _ => False)
  | .builtin .copy =>
   (match evL st c.args.toList, c.argTypes.toList with
   | [.sub b off n m, .str s], [t, _] => vcopy P st.mem t b off n m s fun r mem => k (St.put { st with mem := mem } o.dst (.int .i64 r))
   | [.sub b off n m, x], [t, _] => vcopyI P st.mem t b off n m x fun r mem => k (St.put { st with mem := mem } o.dst (.int .i64 r))
   | [.row b n, x], [t, _] => vcopyR P st.mem t b 0 n none x fun r mem => k (St.put { st with mem := mem } o.dst (.int .i64 r))
   | [.view b off sz n _, x], [t, _] => vcopyR P st.mem t b off n (some sz) x fun r mem => k (St.put { st with mem := mem } o.dst (.int .i64 r))
   | _, _ => False)
  | .builtin .len =>
   (match evL st c.args.toList, c.argTypes.toList with
   | [.mp b], [t] => vmapLen P t st.mem b fun v => k (st.put o.dst v)
   | _, _ => vval P st o.op fun v => k (st.put o.dst v))
  | .builtin .delete =>
   (match evL st c.args.toList, c.argTypes.toList with
   | [m, i], [t, _] => vmapDel P t st.mem m i fun mem => k (St.put { st with mem := mem } o.dst (.tup []))
   | _, _ => False)
  | _ => vval P st o.op fun v => k (st.put o.dst v))
 | .convert src dst x => (match ev st x with
  | .str s => (match isSliceT P dst with
   | true => vbytes P src dst s fun e => k (st.row o.dst s.length (.bytes s) e .marked)
   | false => vval P st o.op fun v => k (st.put o.dst v))
  | _ => vval P st o.op fun v => k (st.put o.dst v))
 | .buildSlice t len parts => (match Nat.beq len 0 with
  | true => vbuild0 P t parts.toList fun c e kd => k (st.row o.dst 0 c e kd)
  | false => match bytesOf (evL st (parts.toList.map (·.2))) with
  | some _ => vbuildS P t len parts.toList (evL st (parts.toList.map (·.2))) fun l e => k (st.row o.dst len (.bytes l) e .row)
  | none => vbuildG P t len (evParts st parts.toList) fun c sz e => k (st.row o.dst len c e (rowKind sz)))
 | .makeSlice t l m => vmake P t (ev st l) (ev st m) fun n cs e kd => k (st.row o.dst n cs e kd)
 | .makeMap t (some r) => (match P.underlying t, ev st r with
  | some (.map _ _), .int _ _ => k (st.newMap o.dst t)
  | _, _ => False)
 | .makeMap t none => k (st.newMap o.dst t)
 | .mapUpdate t m i x => vmapPut P t st.mem (ev st m) (ev st i) (ev st x) fun mem => k (St.put { st with mem := mem } o.dst .undef)
 | .lookup t m i false => vmapGet P t st.mem (ev st m) (ev st i) fun v => k (st.put o.dst v)
 | .range t x => (match ev st x with
  | .str s => (match P.underlying t with | some .string => k (st.newIter o.dst t s) | _ => False)
  | .mp b => vrangeMap P t st.mem b fun v mem => k (St.put { st with mem := mem } o.dst v)
  | _ => False)
 | .entry it => ventry st.mem (ev st it) fun v mem => k (St.put { st with mem := mem } o.dst v)
 | .next it false => vnextMap P st.mem (ev st it) fun v mem => k (St.put { st with mem := mem } o.dst v)
 | .next it true => vnext st.mem (ev st it) fun v mem => k (St.put { st with mem := mem } o.dst v)
 | _ => vval P st o.op fun v => k (st.put o.dst v)

/-- The guard of an operation: what it says is written into the slot that it reads. -/
def vguard (all : Array Oper) (o : Oper) (st : St) (k : Bool -> St -> Prop) : Prop :=
 match o.guard with
 | none => k true st
 | some (j, want) =>
  match all[j]? with
  | none => False
  | some oj =>
   match oj.dst with
   | none => False
   | some d =>
    match st.get d with
    | .lit b => k (b == want) st
    | .bool b => (b = true -> k (true == want) (st.set d (.lit true))) /\ (b = false -> k (false == want) (st.set d (.lit false)))
    | .tup cs => (match cs with | [] => k false st | _ => False)
    | _ => False

/-- A state, its lists reckoned out: else each look at it reckons them anew. -/
def forceL : List V -> (List V -> Prop) -> Prop
 | [], k => k []
 | v :: r, k => forceL r fun r' => k (v :: r')
def forceM : List Blk -> (List Blk -> Prop) -> Prop
 | [], k => k []
 | b :: r, k => forceM r fun r' => k (b :: r')
def St.force (st : St) (k : St -> Prop) : Prop := forceL st.slots fun s => forceM st.mem fun m => k ⟨s, m⟩
theorem forceL_spec : ∀ {l : List V} {k : List V -> Prop}, forceL l k -> k l
 | [], _, h => h
 | v :: r, k, h => forceL_spec (l := r) (k := fun r' => k (v :: r')) h
theorem forceM_spec : ∀ {l : List Blk} {k : List Blk -> Prop}, forceM l k -> k l
 | [], _, h => h
 | b :: r, k, h => forceM_spec (l := r) (k := fun r' => k (b :: r')) h
theorem St.force_spec {st : St} {k : St -> Prop} (h : st.force k) : k st := forceM_spec (forceL_spec (k := fun s => forceM st.mem fun m => k ⟨s, m⟩) h)
def vops (P : Program) (Ω : FuncId -> VSpec) (all : Array Oper) : List Oper -> St -> (St -> Prop) -> Prop
 | [], st, k => k st
 | o :: r, st0, k => st0.force fun st => vguard all o st fun wanted st' =>
     match wanted with
     | true => vop P Ω o st' fun st'' => vops P Ω all r st'' k
     | false => vops P Ω all r (st'.put o.dst (.tup [])) k

/-- A closed condition: it is reckoned out. -/
def chkB : Bool -> Prop
 | true => True
 | false => False
theorem chkB_spec : ∀ {b : Bool}, chkB b -> b = true
 | true, _ => rfl
 | false, h => h.elim
/-! ### a region whose order is open -/
/-- A function that looks: what must hold, and its value. -/
abbrev FSpec := List V -> List Blk -> Option (Prop × V)
def FSpec.spec (F : FSpec) : VSpec := fun args m k =>
 match F args m with
 | some (p, R) => At p /\ k R m
 | none => False
mutual
def V.det : V -> Bool
 | .undef => false
 | .emp => false
 | .agg cs => detL cs
 | .tup cs => detL cs
 | _ => true
def detL : List V -> Bool
 | [] => true
 | v :: vs => v.det && detL vs
end
def allIn (ns : List Nat) : List Nat -> Bool
 | [] => true
 | n :: r => hasN n ns && allIn ns r
def coveredB (ns : List Nat) : List Blk -> Bool
 | [] => true
 | b :: r => allIn ns b.cs.names && coveredB ns r
def vqcall (ex : List Nat) (F : FSpec) (args : List V) (mem : List Blk) (k : V -> Prop) : Prop :=
 let ns := addLive mem (reach mem 3 (addLive mem [] (namesL args))) ex
 match pickMem mem ns with
 | none => False
 | some m =>
  match coveredB ns m with
  | false => False
  | true =>
   match F (selL (fun n => posOf n ns 0) args) (selBlks (fun n => posOf n ns 0) m) with
   | none => False
   | some (p, R) => match R.under 0 && R.det with
    | true => At p /\ k R
    | false => False
def vqcallV (ex : List Nat) (F : FSpec) (args : List V) (mem : List Blk) (k : V -> Prop) : Prop :=
 match (viewAll mem false mem.length args).2 with
 | [] => vqcall ex F args mem k
 | _ :: _ => vqcall ex F (viewAll mem false mem.length args).1 (killL mem (viewAll mem false mem.length args).2 ++ viewBlks (viewAll mem false mem.length args).2) k
def onlyDet (k : V -> Prop) (v : V) : Prop :=
 match v.det with
 | true => k v
 | false => False
def vqop (P : Program) (Ωq : FuncId -> Option FSpec) (o : Oper) (st : St) (k : V -> Prop) : Prop :=
 match o.op with
 | .alloc _ => False
 | .box _ _ => False
 | .store _ _ _ => False
 | .call c =>
  (match c.callee with
  | .value f => (match ev st f with
   | .fn g caps => (match Ωq g with | none => False | some F => vqcallV (glEx P g st.mem) F (evL st c.args.toList ++ caps.map fun b => V.ptr b 0) st.mem k)
   | _ => False)
  | _ => vval P st o.op (onlyDet k))
 | _ => vval P st o.op (onlyDet k)
def vquiet (P : Program) (Ωq : FuncId -> Option FSpec) (all : Array Oper) : List Oper -> St -> (St -> Prop) -> Prop
 | [], st, k => k st
 | o :: r, st0, k => st0.force fun st => vguard all o st fun wanted st' =>
     match wanted with
     | true => vqop P Ωq o st' fun v => vquiet P Ωq all r (st'.put o.dst v) k
     | false => vquiet P Ωq all r (st'.put o.dst (.tup [])) k
def isMapLen (P : Program) (c : Call) : Bool :=
 match c.argTypes.toList with
 | [t] => (match P.underlying t with | some (.map _ _) => true | _ => false)
 | _ => false
def acts (P : Program) : Op -> Bool
 | .alloc _ => true
 | .box _ _ => true
 | .store _ _ _ => true
 | .buildSlice _ _ _ => true
 | .makeSlice _ _ _ => true
 | .makeMap _ _ => true
 | .mapUpdate _ _ _ _ => true
 | .lookup _ _ _ _ => true
 | .range _ _ => true
 | .next _ _ => true
 | .entry _ => true
 | .convert _ dst _ => isSliceT P dst
 | .call c => (match c.callee with | .builtin .append => true | .builtin .copy => true | .builtin .delete => true | .builtin .len => isMapLen P c | _ => false)
 | _ => false
/-- A call of a function that is not known to look alone. -/
def unlooked (Ωq : FuncId -> Option FSpec) : Op -> Bool
 | .call c => (match c.callee with | .value (.func g) => (match Ωq g with | none => true | some _ => false) | _ => false)
 | _ => false
/-- How many operations look ahead of the first that acts. -/
def lookers (P : Program) (Ωq : FuncId -> Option FSpec) : List Oper -> Nat
 | [] => 0
 | o :: r => (match acts P o.op || unlooked Ωq o.op with | true => 0 | false => lookers P Ωq r + 1)
/-! ### a weaker state -/
mutual
def leV : V -> V -> Prop
 | _, .undef => True
 | .int k n, .int k' n' => chkB (decide (k = k')) /\ n = n'
 | .bool b, .bool b' => b = b'
 | .lit b, .bool b' => b = b'
 | .lit b, .lit b' => b = b'
 | .bool b, .lit b' => b = b'
 | .str s, .str s' => s = s'
 | .ptr b o, .ptr b' o' => b = b' /\ o = o'
 | .nilp, .nilp => True
 | .raw x, .raw y => x = y
 | .row b n, .row b' n' => b = b' /\ n = n'
 | .fn f c, .fn f' c' => f = f' /\ c = c'
 | .mp b, .mp b' => b = b'
 | .arr n l, .arr n' l' => chkB (Nat.beq n n') /\ l = l'
 | .inr b i n, .inr b' i' n' => b = b' /\ i = i' /\ n = n'
 | .view b o sz n q, .view b' o' sz' n' q' => b = b' /\ o = o' /\ sz = sz' /\ n = n' /\ q = q'
 | .sub b o n m, .sub b' o' n' m' => b = b' /\ chkB (Nat.beq o o' && Nat.beq n n') /\ m = m'
 | .emp, .emp => True
 | .gp g o, .gp g' o' => chkB (Nat.beq g g' && Nat.beq o o')
 | .agg cs, .agg cs' => leL cs cs'
 | .tup cs, .tup cs' => leL cs cs'
 | _, _ => False
def leL : List V -> List V -> Prop
 | [], [] => True
 | v :: vs, u :: us => (match u with | .undef => leL vs us | u => leV v u /\ leL vs us)
 | _, _ => False
end
def leCells : Cells -> Cells -> Prop
 | _, .dead => True
 | .vals vs, .vals us => leL vs us
 | .ints k l, .ints k' l' => k = k' /\ l = l'
 | .bytes l, .bytes l' => l = l'
 | .strs l, .strs l' => l = l'
 | .bools l, .bools l' => l = l'
 | .map l, .map l' => l = l'
 | .mat k e l, .mat k' e' l' => chkB (decide (k = k') && Nat.beq e e') /\ l = l'
 | .mix a n l z, .mix a' n' l' z' => leL a a' /\ chkB (Nat.beq n n') /\ l = l' /\ leL z z'
 | .mixi a n l z, .mixi a' n' l' z' => leL a a' /\ chkB (Nat.beq n n') /\ l = l' /\ leL z z'
 | .recs sh l, .recs sh' l' => chkB (decide (sh = sh')) /\ l = l'
 | _, _ => False
/-- The blocks of the second are the first ones of the first. -/
def leMem : List Blk -> List Blk -> Prop
 | _, [] => True
 | b :: bs, c :: cs => (chkB (Nat.beq b.elem c.elem && decide (b.kind = c.kind)) /\ leCells b.cs c.cs) /\ leMem bs cs
 | [], _ :: _ => False
def memUnder (n : Nat) : List Blk -> Bool
 | [] => true
 | b :: bs => (match b.cs with | .vals vs => underL n vs | .mix a _ _ z => underL n a && underL n z | .mixi a _ _ z => underL n a && underL n z | _ => true) && memUnder n bs
def leSt (n0 : Nat) (st st' : St) : Prop :=
 leL st.slots st'.slots /\ leMem st.mem st'.mem /\ chkB (Nat.ble n0 st'.mem.length && (underL st'.mem.length st'.slots && memUnder st'.mem.length st'.mem))

/-! ### blocks chosen anew: of a state, those that another one names, in its order; a slice that is nil becomes a row without a block -/
def isNilS : V -> Bool
 | .raw (.slice none 0 0) => true
 | _ => false
mutual
def V.nilTo (g : Nat -> Bool) : V -> V -> V
 | .agg cs, .agg ds => .agg (nilToL g cs ds)
 | .tup cs, .tup ds => .tup (nilToL g cs ds)
 | v, .row b _ => (match isNilS v, g b with | true, true => .row b 0 | _, _ => v)
 | v, _ => v
def nilToL (g : Nat -> Bool) : List V -> List V -> List V
 | v :: vs, u :: us => v.nilTo g u :: nilToL g vs us
 | vs, _ => vs
end
def Cells.selN (τ : Nat -> Option Nat) (g : Nat -> Bool) (c d : Cells) : Cells :=
 match c with
 | .vals vs => (match d with | .vals us => .vals (nilToL g (selL τ vs) us) | _ => .vals (selL τ vs))
 | .mix a n l z => .mix (selL τ a) n l (selL τ z)
 | .mixi a n l z => .mixi (selL τ a) n l (selL τ z)
 | c => c
def findSel (n : Nat) : List (Option Nat) -> Nat -> Option Nat
 | [], _ => none
 | none :: r, i => findSel n r (i + 1)
 | some j :: r, i => (match Nat.beq j n with | true => some i | false => findSel n r (i + 1))
def isGhost (σ : List (Option Nat)) (b : Nat) : Bool :=
 match σ[b]? with
 | some none => true
 | _ => false
/-- A row of rows of the call's own. -/
def Blk.isOwnMat (b : Blk) : Bool :=
 match b.kind, b.cs with
 | .mat, .mat _ _ _ => true
 | _, _ => false
def selMem (τ : Nat -> Option Nat) (g : Nat -> Bool) (mem : List Blk) : List (Option Nat) -> List Blk -> Option (List Blk)
 | [], _ => some []
 | none :: r, h :: hs =>
  (match h.kind.isRow || h.isOwnMat, selMem τ g mem r hs with
  | true, some m => some (⟨h.cs.none0, h.elem, h.kind⟩ :: m)
  | _, _ => none)
 | some j :: r, h :: hs =>
  (match mem[j]?, selMem τ g mem r hs with
  | some b, some m => some (⟨b.cs.selN τ g h.cs, b.elem, b.kind⟩ :: m)
  | _, _ => none)
 | _ :: _, [] => none
def hasSel (j : Nat) : List (Option Nat) -> Bool
 | [] => false
 | none :: r => hasSel j r
 | some i :: r => (match Nat.beq i j with | true => true | false => hasSel j r)
def nodupSel : List (Option Nat) -> Bool
 | [] => true
 | none :: r => nodupSel r
 | some j :: r => !hasSel j r && nodupSel r
def prefSel : Nat -> Nat -> List (Option Nat) -> Bool
 | 0, _, _ => true
 | n + 1, i, some j :: r => Nat.beq i j && prefSel n (i + 1) r
 | _ + 1, _, _ => false
def zipN : List Nat -> List Nat -> List (Nat × Nat)
 | c :: cs, b :: bs => (c, b) :: zipN cs bs
 | _, _ => []
mutual
def pairsV : V -> V -> List (Nat × Nat)
 | .ptr b _, .ptr c _ => [(c, b)]
 | .row b _, .row c _ => [(c, b)]
 | .mp b, .mp c => [(c, b)]
 | .inr b _ _, .inr c _ _ => [(c, b)]
 | .view b _ _ _ _, .view c _ _ _ _ => [(c, b)]
 | .sub b _ _ _, .sub c _ _ _ => [(c, b)]
 | .fn _ bs, .fn _ cs => zipN cs bs
 | .agg vs, .agg us => pairsL vs us
 | .tup vs, .tup us => pairsL vs us
 | _, _ => []
def pairsL : List V -> List V -> List (Nat × Nat)
 | v :: vs, u :: us => pairsV v u ++ pairsL vs us
 | _, _ => []
end
def pairsIn (mem head : List Blk) : List (Nat × Nat) -> List (Nat × Nat)
 | [] => []
 | (c, b) :: r =>
  (match mem[b]?, head[c]? with
  | some x, some y => (match x.cs, y.cs with | .vals vs, .vals us => pairsL vs us | .mix a _ _ z, .mix a' _ _ z' => pairsL a a' ++ pairsL z z' | .mixi a _ _ z, .mixi a' _ _ z' => pairsL a a' ++ pairsL z z' | _, _ => [])
  | _, _ => []) ++ pairsIn mem head r
def lookN (c : Nat) : List (Nat × Nat) -> Option Nat
 | [] => none
 | (a, b) :: r => (match Nat.beq a c with | true => some b | false => lookN c r)
def idPairs : Nat -> Nat -> List (Nat × Nat)
 | _, 0 => []
 | i, n + 1 => (i, i) :: idPairs (i + 1) n
def selOf (ps : List (Nat × Nat)) : Nat -> List Blk -> List (Option Nat)
 | _, [] => []
 | i, _ :: r => lookN i ps :: selOf ps (i + 1) r
def autoSel (n0 : Nat) (st head : St) : List (Option Nat) :=
 let p0 := idPairs 0 n0 ++ pairsL st.slots head.slots
 let p1 := p0 ++ pairsIn st.mem head.mem p0
 let p2 := p1 ++ pairsIn st.mem head.mem p1
 selOf p2 0 head.mem
/-- Those whose block is dead in the head stand for nothing. -/
def liveSel : List (Option Nat) -> List Blk -> List (Option Nat)
 | some j :: r, h :: hs => (match h.cs.isDead with | true => none | false => some j) :: liveSel r hs
 | none :: r, _ :: hs => none :: liveSel r hs
 | σ, [] => σ
 | [], _ => []
def selMemD (τ : Nat -> Option Nat) (g : Nat -> Bool) (mem : List Blk) : List (Option Nat) -> List Blk -> Option (List Blk)
 | [], _ => some []
 | none :: r, h :: hs =>
  (match h.kind.isRow || h.isOwnMat, selMemD τ g mem r hs with
  | true, some m => some (⟨h.cs.none0, h.elem, h.kind⟩ :: m)
  | _, _ => none)
 | some j :: r, h :: hs =>
  (match mem[j]?, selMemD τ g mem r hs with
  | some b, some m => some (⟨(match h.cs.isDead with | true => .dead | false => b.cs.selN τ g h.cs), b.elem, b.kind⟩ :: m)
  | _, _ => none)
 | _ :: _, [] => none
def leSelBy (n0 : Nat) (σ : List (Option Nat)) (st head : St) : Prop :=
 match nodupSel σ with
 | true =>
  (match selMem (fun n => findSel n σ 0) (isGhost σ) st.mem σ head.mem with
  | none => False
  | some m => chkB (nodupSel σ && prefSel n0 0 σ) /\ leSt n0 ⟨nilToL (isGhost σ) (selL (fun n => findSel n σ 0) st.slots) head.slots, m⟩ head)
 | false =>
  (match selMemD (fun n => findSel n (liveSel σ head.mem) 0) (isGhost σ) st.mem σ head.mem with
  | none => False
  | some m => chkB (nodupSel (liveSel σ head.mem) && prefSel n0 0 σ) /\ leSt n0 ⟨nilToL (isGhost σ) (selL (fun n => findSel n (liveSel σ head.mem) 0) st.slots) head.slots, m⟩ head)
def leSel (n0 : Nat) (st head : St) : Prop := leSelBy n0 (autoSel n0 st head) st head
def leAt (n0 : Nat) (auto : Bool) (st head : St) : Prop :=
 match auto with
 | true => leSel n0 st head
 | false => leSt n0 st head

/-! ### a region whose order is open and that acts in between: all orders, but what hangs on no memory comes first -/
def pureKind : Op -> Bool
 | .move _ => true
 | .assign _ => true
 | .fieldAddr _ _ _ => true
 | .binOp _ _ _ _ _ => true
 | .unOp _ _ _ => true
 | .build _ _ => true
 | .extract _ _ => true
 | .field _ _ _ => true
 | .nilCheck _ => true
 | .indexAddr _ _ _ => true
 | .pick _ _ _ => true
 | .index _ _ _ => true
 | .call c => (match c.callee with | .builtin .len => true | .builtin .min => true | .builtin .max => true | _ => false)
 | _ => false
def pickPure (P : Program) (ops : Array Oper) (listed : Array Bool) : List Nat -> Option Nat
 | [] => none
 | i :: r =>
  match ops[i]? with
  | none => pickPure P ops listed r
  | some o => (match pureKind o.op && !acts P o.op && o.guard.isNone && Region.free .any ops listed i with | true => some i | false => pickPure P ops listed r)
def loadKind : Op -> Bool
 | .load _ _ => true
 | _ => false
/-- A load that may come first: nobody who could come before it writes. -/
def pickLoad (wd : Bool) (ops : Array Oper) (listed : Array Bool) : List Nat -> Option Nat
 | [] => none
 | i :: r =>
  match ops[i]? with
  | none => pickLoad wd ops listed r
  | some o => (match loadKind o.op && o.guard.isNone && stillFree wd .any ops listed i with | true => some i | false => pickLoad wd ops listed r)
def deadMem : List Blk -> List Blk
 | [] => []
 | b :: r => ⟨.dead, b.elem, b.kind⟩ :: deadMem r
def vsched (wd : Bool) (P : Program) (Ω : FuncId -> VSpec) (ops : Array Oper) : Nat -> Array Bool -> St -> (St -> Prop) -> Prop
 | 0, listed, st, k => (match Region.ready .any ops listed with | [] => k st | _ => False)
 | f + 1, listed, st0, k => st0.force fun st =>
  match Region.ready .any ops listed with
  | [] => k st
  | i0 :: r =>
   match pickPure P ops listed (i0 :: r) with
   | some i =>
    (match ops[i]? with
    | none => False
    | some o => vval P ⟨st.slots, deadMem st.mem⟩ o.op (onlyDet fun v => vsched wd P Ω ops f (listed.setIfInBounds i true) (st.put o.dst v) k))
   | none =>
   match pickLoad wd ops listed (i0 :: r) with
   | some i =>
    (match ops[i]? with
    | none => False
    | some o => vval P st o.op (onlyDet fun v => vsched wd P Ω ops f (listed.setIfInBounds i true) (st.put o.dst v) k))
   | none => vall (i0 :: r) fun i =>
    (match ops[i]? with
    | none => False
    | some o => vguard ops o st fun wanted st' =>
     match wanted with
     | true => vop P Ω o st' fun st'' => vsched wd P Ω ops f (listed.setIfInBounds i true) st'' k
     | false => vsched wd P Ω ops f (listed.setIfInBounds i true) (st'.put o.dst (.tup [])) k)
where
 vall : List Nat -> (Nat -> Prop) -> Prop
  | [], _ => True
  | i :: r, p => p i /\ vall r p
/-! ### loads that sleep: of two loads that are both ready, only one order is gone through, until something acts -/
def sleepOf (ops : Array Oper) (o : Oper) : List Nat -> List Nat
 | [] => []
 | z :: r =>
  (match ops[z]? with
  | some oz => (match oz.apart ops o with | true => z :: sleepOf ops o r | false => sleepOf ops o r)
  | none => sleepOf ops o r)
def isLoadAt (ops : Array Oper) (i : Nat) : Bool :=
 match ops[i]? with
 | some o => loadKind o.op && o.guard.isNone
 | none => false
def vallS (ops : Array Oper) (load : List Nat -> Nat -> Prop) (act : Nat -> Prop) : List Nat -> List Nat -> Prop
 | _, [] => True
 | Z, i :: r =>
  (match hasN i Z with
  | true => vallS ops load act Z r
  | false =>
   (match isLoadAt ops i with
   | true => load Z i /\ vallS ops load act (i :: Z) r
   | false => act i /\ vallS ops load act Z r))
/-- What is listed, reckoned out. -/
def forceLB : List Bool -> (List Bool -> Prop) -> Prop
 | [], k => k []
 | true :: r, k => forceLB r fun r' => k (true :: r')
 | false :: r, k => forceLB r fun r' => k (false :: r')
theorem forceLB_spec : ∀ {l : List Bool} {k : List Bool -> Prop}, forceLB l k -> k l
 | [], _, h => h
 | true :: r, k, h => forceLB_spec (l := r) (k := fun r' => k (true :: r')) h
 | false :: r, k, h => forceLB_spec (l := r) (k := fun r' => k (false :: r')) h
def forceA (a : Array Bool) (k : Array Bool -> Prop) : Prop := forceLB a.toList fun l => k ⟨l⟩
theorem forceA_spec {a : Array Bool} {k : Array Bool -> Prop} (h : forceA a k) : k a := forceLB_spec (k := fun l => k ⟨l⟩) h
def vschedS (P : Program) (Ω : FuncId -> VSpec) (ops : Array Oper) : Nat -> Array Bool -> List Nat -> St -> (St -> Prop) -> Prop
 | 0, listed, _, st, k => (match Region.ready .any ops listed with | [] => k st | _ => False)
 | f + 1, listed0, Z, st0, k => forceA listed0 fun listed => st0.force fun st =>
  match Region.ready .any ops listed with
  | [] => k st
  | i0 :: r =>
   match pickPure P ops listed (i0 :: r) with
   | some i =>
    (match ops[i]? with
    | none => False
    | some o => vval P ⟨st.slots, deadMem st.mem⟩ o.op (onlyDet fun v => vschedS P Ω ops f (listed.setIfInBounds i true) (sleepOf ops o Z) (st.put o.dst v) k))
   | none =>
   match (match Z with | [] => pickLoad true ops listed (i0 :: r) | _ :: _ => none) with
   | some i =>
    (match ops[i]? with
    | none => False
    | some o => vval P st o.op (onlyDet fun v => vschedS P Ω ops f (listed.setIfInBounds i true) (sleepOf ops o (match hasN i Z with | true => [] | false => Z)) (st.put o.dst v) k))
   | none => vallS ops
    (fun Z i => match ops[i]? with
     | none => False
     | some o => vval P st o.op (onlyDet fun v => vschedS P Ω ops f (listed.setIfInBounds i true) (sleepOf ops o Z) (st.put o.dst v) k))
    (fun i => match ops[i]? with
     | none => False
     | some o => vguard ops o st fun wanted st' =>
      match wanted with
      | true => vop P Ω o st' fun st'' => vschedS P Ω ops f (listed.setIfInBounds i true) [] st'' k
      | false => vschedS P Ω ops f (listed.setIfInBounds i true) [] (st'.put o.dst (.tup [])) k)
    Z (i0 :: r)
/-! ### regions that call only what looks: what looks is taken first -/
/-- What an operation gives, and the memory behind it. -/
def vopC (P : Program) (o : Op) (st : St) (k : List Blk × V -> Prop) : Prop :=
 match o with
 | .alloc e => (match zeroCells P e with | none => False | some cs => mixOfT P e cs fun c => k (st.mem ++ [⟨c, e, .box⟩], .ptr st.mem.length 0))
 | .box e x => (match cellsOfV (ev st x) with | none => False | some cs => mixOfT P e cs fun c => k (st.mem ++ [⟨c, e, .box⟩], .ptr st.mem.length 0))
 | .store t a x => (match ev st a with
  | .ptr b off => vstore P st.mem t b off (ev st x) fun m => k (m, .undef)
  | .elt b off n j => vstoreElt P st.mem t b off n j (ev st x) fun m => k (m, .undef)
  | _ => False)
 | .convert src dst x => (match ev st x with
  | .str s => (match isSliceT P dst with
   | true => vbytes P src dst s fun e => k (st.mem ++ [⟨.bytes s, e, .marked⟩], .row st.mem.length s.length)
   | false => False)
  | _ => False)
 | .buildSlice t len parts => (match Nat.beq len 0 with
  | true => vbuild0 P t parts.toList fun c e kd => k (st.mem ++ [⟨c, e, kd⟩], .row st.mem.length 0)
  | false => match bytesOf (evL st (parts.toList.map (·.2))) with
  | some _ => vbuildS P t len parts.toList (evL st (parts.toList.map (·.2))) fun l e => k (st.mem ++ [⟨.bytes l, e, .row⟩], .row st.mem.length len)
  | none => vbuildG P t len (evParts st parts.toList) fun c sz e => k (st.mem ++ [⟨c, e, rowKind sz⟩], .row st.mem.length len))
 | .makeSlice t l m => vmake P t (ev st l) (ev st m) fun n cs e kd => k (st.mem ++ [⟨cs, e, kd⟩], .row st.mem.length n)
 | .makeMap t (some r) => (match P.underlying t, ev st r with
  | some (.map _ _), .int _ _ => k (st.mem ++ [⟨.map [], t, .map⟩], .mp st.mem.length)
  | _, _ => False)
 | .makeMap t none => k (st.mem ++ [⟨.map [], t, .map⟩], .mp st.mem.length)
 | _ => False
/-- What makes memory alone. -/
def growKind : Op -> Bool
 | .alloc _ => true
 | .box _ _ => true
 | .convert _ _ _ => true
 | .buildSlice _ _ _ => true
 | .makeSlice _ _ _ => true
 | .makeMap _ _ => true
 | _ => false
def slotsOf : List Operand -> List Nat
 | [] => []
 | .tmp t :: r => t :: slotsOf r
 | _ :: r => slotsOf r
def dstIn (d : Option Tmp) (l : List Nat) : Bool :=
 match d with
 | none => false
 | some t => hasN t l
def dstNe (d e : Option Tmp) : Bool :=
 match d, e with
 | some a, some b => !Nat.beq a b
 | _, _ => true
def guardDst (ops : Array Oper) (o : Oper) : Option Tmp :=
 match o.guard with
 | none => none
 | some (j, _) => (match ops[j]? with | none => none | some oj => oj.dst)
def lookB (P : Program) (Ωq : FuncId -> Option FSpec) (op : Op) : Bool := !(acts P op || unlooked Ωq op)
/-- A call that is not known to look alone. -/
def callB (Ωq : FuncId -> Option FSpec) (op : Op) : Bool :=
 match op with
 | .call c => (match c.callee with | .value (.func g) => (match Ωq g with | none => true | some _ => false) | .value _ => true | .builtin .append => true | .builtin .copy => true | .builtin .delete => true | _ => false)
 | .mapUpdate _ _ _ _ => true
 | .lookup _ _ _ _ => true
 | .range _ _ => true
 | .next _ _ => true
 | .entry _ => true
 | _ => false
/-- Two operations that may change places. -/
def indep (P : Program) (Ωq : FuncId -> Option FSpec) (ops : Array Oper) (o oj : Oper) : Bool :=
 dstNe o.dst oj.dst && !dstIn o.dst (slotsOf oj.op.operands.toList) && !dstIn oj.dst (slotsOf o.op.operands.toList) &&
 dstNe o.dst (guardDst ops oj) && !dstIn (guardDst ops oj) (slotsOf o.op.operands.toList) && (!loadKind o.op || lookB P Ωq oj.op || growKind oj.op)
def onlyAfter (ops : Array Oper) (i : Nat) : Nat -> List Bool -> List Bool
 | 0, l => l
 | n + 1, l => onlyAfter ops i n (l ++ [match ops[l.length]? with | none => false | some o => Nat.beq l.length i || o.after.any fun e => Region.binds .any e && l.getD e.on false])
/-- All that may come before an operation may change places with it. -/
def chkFree (P : Program) (Ωq : FuncId -> Option FSpec) (ops : Array Oper) (listed : Array Bool) (bl : List Bool) (i : Nat) (o : Oper) : Bool :=
 (List.range ops.size).all fun j => Nat.beq j i || listed.getD j true || (match ops[j]? with
  | none => true
  | some oj => (match bl.getD j false with
   | true => oj.after.any fun e => Region.binds .any e && (Nat.beq e.on i || (bl.getD e.on false && !listed.getD e.on true))
   | false => indep P Ωq ops o oj))
def namelessB (P : Program) (Ωq : FuncId -> Option FSpec) (st : St) (op : Op) : Bool :=
 match op with
 | .call c => (match c.callee with
  | .value (.func g) => (match Ωq g, namesL (evL st c.args.toList) with | some _, [] => noGl P g | _, _ => false)
  | _ => false)
 | _ => false
def pickM (P : Program) (Ωq : FuncId -> Option FSpec) (ops : Array Oper) (listed : Array Bool) (st : St) : List Nat -> Option Nat
 | [] => none
 | i :: r =>
  match ops[i]? with
  | none => pickM P Ωq ops listed st r
  | some o =>
   match o.guard.isNone && lookB P Ωq o.op && (pureKind o.op || loadKind o.op || namelessB P Ωq st o.op) && chkFree P Ωq ops listed (onlyAfter ops i ops.size []) i o with
   | true => some i
   | false => pickM P Ωq ops listed st r
/-- One operation of such a region. -/
def vstep (P : Program) (Ωq : FuncId -> Option FSpec) (ops : Array Oper) (o : Oper) (st : St) (k : St -> Prop) : Prop :=
 vguard ops o st fun wanted st' =>
  match wanted with
  | true => (match lookB P Ωq o.op with
   | true => vqop P Ωq o st' fun v => k (st'.put o.dst v)
   | false => vopC P o.op st' fun p => k (St.put { st' with mem := p.1 } o.dst p.2))
  | false => k (st'.put o.dst (.tup []))
/-- All orders. -/
def vschedA (P : Program) (Ωq : FuncId -> Option FSpec) (ops : Array Oper) : Nat -> Array Bool -> St -> (St -> Prop) -> Prop
 | 0, listed, st, k => (match Region.ready .any ops listed with | [] => k st | _ => False)
 | f + 1, listed, st, k => (Region.ready .any ops listed = [] -> k st) /\ ∀ i ∈ Region.ready .any ops listed, ∃ o, ops[i]? = some o /\ vstep P Ωq ops o st fun st' => vschedA P Ωq ops f (listed.setIfInBounds i true) st' k
/-- What only looks is taken first. -/
def vschedM (P : Program) (Ωq : FuncId -> Option FSpec) (ops : Array Oper) : Nat -> Array Bool -> St -> (St -> Prop) -> Prop
 | 0, listed, st, k => (match Region.ready .any ops listed with | [] => k st | _ => False)
 | f + 1, listed, st0, k => st0.force fun st =>
  match Region.ready .any ops listed with
  | [] => k st
  | i0 :: r =>
   match pickM P Ωq ops listed st (i0 :: r) with
   | some i => (match ops[i]? with | none => False | some o => vqop P Ωq o st fun v => vschedM P Ωq ops f (listed.setIfInBounds i true) (st.put o.dst v) k)
   | none => vsched.vall (i0 :: r) fun i => (match ops[i]? with | none => False | some o => vstep P Ωq ops o st fun st' => vschedM P Ωq ops f (listed.setIfInBounds i true) st' k)

def lookCall (Ωq : FuncId -> Option FSpec) (op : Op) : Bool :=
 match op with
 | .call c => (match c.callee with | .value (.func g) => (match Ωq g with | none => false | some _ => true) | _ => false)
 | _ => false
def minMax (op : Op) : Bool :=
 match op with
 | .call c => (match c.callee with | .builtin .min => true | .builtin .max => true | _ => false)
 | _ => false
def onlyLooks (Ωq : FuncId -> Option FSpec) (l : List Oper) : Bool := (l.all fun o => !callB Ωq o.op) && l.any fun o => lookCall Ωq o.op || minMax o.op
/-- J: the state behind the region, where all orders are gone through. -/
def vdraw (fc : Bool) (P : Program) (Ω : FuncId -> VSpec) (Ωq : FuncId -> Option FSpec) (n0 : Nat) (J : St -> Option St) (ops : Array Oper) (st : St) (k : St -> Prop) : Prop :=
 match P.follows .mixedOrders with
 | false => False
 | true =>
  match fc with
  | true => (match Region.noSelect ops with | false => False | true => vschedS P Ω ops ops.size (Array.replicate ops.size false) [] st k)
  | false =>
  match Nat.beq (lookers P Ωq ops.toList) ops.size with
  | true => chkB (Region.lexB .any ops) /\ vquiet P Ωq ops ops.toList st k
  | false =>
   match Region.lexTailB .any ops (lookers P Ωq ops.toList) with
   | true => True /\ vquiet P Ωq ops (ops.toList.take (lookers P Ωq ops.toList)) st fun st' => vops P Ω ops (ops.toList.drop (lookers P Ωq ops.toList)) st' k
   | false =>
    match Region.noSelect ops with
    | false => False
    | true =>
     match onlyLooks Ωq ops.toList with
     | true =>
      (match J st with
      | none => vschedM P Ωq ops ops.size (Array.replicate ops.size false) st k
      | some st2 => vschedM P Ωq ops ops.size (Array.replicate ops.size false) st (fun st' => leSel n0 st' st2) /\ k st2)
     | false =>
      match J st with
      | none => vsched false P Ω ops ops.size (Array.replicate ops.size false) st k
      | some st2 => vsched false P Ω ops ops.size (Array.replicate ops.size false) st (fun st' => leSel n0 st' st2) /\ k st2

/-! ### code -/
/-- What is said of a loop: its variables, how they are found in a state, what the state at its head is; all that may hang on the state in which it is met. -/
structure Ann where
 α : Type
 find : St -> Option α
 head : α -> St
 inv : α -> Prop
 meas : α -> Nat
 auto : Bool := false
 join : Bool := false
 /-- All orders of the region are gone through, also where it seems only to look. -/
 force : Bool := false

def joinOf (o : Option Ann) (st : St) : Option St :=
 match o with
 | none => none
 | some A => (match A.find st with | none => none | some a => some (A.head a))
def forced (o : Option Ann) : Bool :=
 match o with
 | none => false
 | some A => A.force
/-- A region behind which the state is said anew, whatever way it is gone through. -/
def joinAll (o : Option Ann) (st : St) : Option St :=
 match o with
 | none => none
 | some A => (match A.join with | true => joinOf (some A) st | false => none)
/-- The rest, from the state that is said. -/
def vjoin (n0 : Nat) (J : Option St) (k : St -> Prop) (go : (St -> Prop) -> Prop) : Prop :=
 match J with
 | none => go k
 | some st2 => go (fun st' => leSel n0 st' st2) /\ k st2
def labelIn : Code -> Option Nat
 | .label l => some l
 | .seq a b => (match labelIn a with | some l => some l | none => labelIn b)
 | _ => none
def hasLab (l : Nat) : Code -> Bool
 | .label l' => l' == l
 | .seq a b => hasLab l a || hasLab l b
 | _ => false
def loopKey : Code -> Nat
 | .seq a _ => loopKey a
 | .region id _ _ => id
 | .block _ b => loopKey b
 | .scope b => loopKey b
 | .loop b => loopKey b
 | _ => 0

mutual
def vwp (P : Program) (Ω : FuncId -> VSpec) (Ωq : FuncId -> Option FSpec) (n0 : Nat) (ann : Nat -> St -> Option Ann) : Code -> St -> (Exit -> St -> Prop) -> Prop
 | .skip, st, k => k .normal st
 | .label _, st, k => k .normal st
 | .ret, st, k => k .ret st
 | .exit id, st, k => k (.exit id) st
 | .seq x y, st, k => vwp P Ω Ωq n0 ann x st fun e st' =>
   match e with
   | .normal => vwp P Ω Ωq n0 ann y st' k
   | e => k e st'
 | .cond c x y, st, k =>
   (match ev st c with
   | .lit t => (match t with | true => vwp P Ω Ωq n0 ann x st k | false => vwp P Ω Ωq n0 ann y st k)
   | .bool t => (match c with
    | .tmp d => (t = true -> vwp P Ω Ωq n0 ann x (st.set d (.lit true)) k) /\ (t = false -> vwp P Ω Ωq n0 ann y (st.set d (.lit false)) k)
    | _ => (t = true -> vwp P Ω Ωq n0 ann x st k) /\ (t = false -> vwp P Ω Ωq n0 ann y st k))
   | _ => False)
 | .block id c, st, k => vwp P Ω Ωq n0 ann c st fun e st' =>
   match e with
   | .exit i => (match Nat.beq i id with | true => k .normal st' | false => k (.exit i) st')
   | e => k e st'
 | .region id ops draw, st, k => vjoin n0 (joinAll (ann (1000 + id) st) st) (fun st' => k .normal st') fun k' => (match draw with | false => vops P Ω ops ops.toList st k' | true => vdraw (forced (ann (1000 + id) st)) P Ω Ωq n0 (fun st => joinOf (ann (1000 + id) st) st) ops st k')
 | .loop c, st, k =>
   match ann (loopKey c) st with
   | none => False
   | some A =>
    match A.find st with
    | none => False
    | some a0 => leAt n0 A.auto st (A.head a0) /\ At (A.inv a0) /\ ∀ a, A.inv a -> vwp P Ω Ωq n0 ann c (A.head a) fun e st' =>
      match e with
      | .normal => (match A.find st' with | none => False | some a' => leAt n0 A.auto st' (A.head a') /\ At (A.inv a' /\ A.meas a' < A.meas a))
      | e => k e st'
 | .goto l, st, k => k (.goto l) st
 | .scope c, st, k =>
   (match labelIn c with
   | none => False
   | some l =>
    match ann (3000 + l) st with
    | none => vwp P Ω Ωq n0 ann c st fun e st' =>
      match e with
      | .goto _ => False
      | e => k e st'
    | some A => (vwp P Ω Ωq n0 ann c st fun e st' =>
       match e with
       | .goto l' => (match Nat.beq l' l with
        | true => (match A.find st' with | none => False | some a' => leAt n0 A.auto st' (A.head a') /\ At (A.inv a'))
        | false => False)
       | e => k e st') /\ ∀ a, A.inv a -> vlab P Ω Ωq n0 ann l c (A.head a) fun e st' =>
       match e with
       | .goto l' => (match Nat.beq l' l with
        | true => (match A.find st' with | none => False | some a' => leAt n0 A.auto st' (A.head a') /\ At (A.inv a' /\ A.meas a' < A.meas a))
        | false => False)
       | e => k e st')
 | _, _, _ => False
/-- From a label on. -/
def vlab (P : Program) (Ω : FuncId -> VSpec) (Ωq : FuncId -> Option FSpec) (n0 : Nat) (ann : Nat -> St -> Option Ann) (l : Nat) : Code -> St -> (Exit -> St -> Prop) -> Prop
 | .seq a b, st, k =>
  (match hasLab l a with
  | true => vlab P Ω Ωq n0 ann l a st fun e st' =>
    match e with
    | .normal => vwp P Ω Ωq n0 ann b st' k
    | e => k e st'
  | false => vlab P Ω Ωq n0 ann l b st k)
 | .label l', st, k => (match Nat.beq l' l with | true => k .normal st | false => False)
 | _, _, _ => False
end

def vres (P : Program) (st : St) : List ResultVar -> (List V -> Prop) -> Prop
 | [], k => k []
 | .tmp t :: r, k => vres P st r fun vs => k (st.get t :: vs)
 | .cell a t :: r, k => (match st.get a with | .ptr b o => vload P st.mem t b o fun v => vres P st r fun vs => k (v :: vs) | _ => False)

def vpost (P : Program) (fn : Func) (k : V -> List Blk -> Prop) : Exit -> St -> Prop
 | .normal, st => vres P st fn.results.toList fun vs => (match vs with | [v] => k v st.mem | vs => k (.tup vs) st.mem)
 | .ret, st => vres P st fn.results.toList fun vs => (match vs with | [v] => k v st.mem | vs => k (.tup vs) st.mem)
 | _, _ => False

def vinit (fn : Func) (args : List V) (m : List Blk) : St := ⟨args ++ List.replicate (fn.ntmps - args.length) .undef, m⟩

/-- A function by its body. -/
def vbody (P : Program) (Ω : FuncId -> VSpec) (Ωq : FuncId -> Option FSpec) (ann : Nat -> St -> Option Ann) (f : FuncId) : VSpec := fun args m k =>
 match P.funcs[f]? with
 | none => False
 | some fn =>
  match fn.name == "runtime.NumGoroutine" with
  | true => False
  | false =>
   match fn.body with
   | none => False
   | some c => vwp P Ω Ωq m.length ann c (vinit fn args m) (vpost P fn k)

/-- A contract in closed form, of a function that may write into what it is handed, and hand back what is new. -/
abbrev GSpec := List V -> List Blk -> Option (Prop × V × List Blk)
def GSpec.spec (G : GSpec) : VSpec := fun args m k =>
 match G args m with
 | some (p, R, M) => At p /\ k R M
 | none => False
/-- Bodies in place of contracts, to a depth, where 'Ω' has none. -/
structure Tab where
 specs : FuncId -> Option VSpec
 looks : FuncId -> Option FSpec
def Tab.none : Tab := ⟨fun _ => .none, fun _ => .none⟩
def vin (P : Program) (T : Tab) (ann : FuncId -> Nat -> St -> Option Ann) : Nat -> FuncId -> VSpec
 | 0, f => (match T.specs f with | some S => S | none => fun _ _ _ => False)
 | n + 1, f => (match T.specs f with | some S => S | none => vbody P (vin P T ann n) T.looks (ann f) f)
end Go.Vi
