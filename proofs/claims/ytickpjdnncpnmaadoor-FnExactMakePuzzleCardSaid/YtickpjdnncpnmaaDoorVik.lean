/- Arguments opened: slices of structs of integers, and of integers. -/
import Derived.Test.YtickpjdnncpnmaaDoorVih
import Derived.Deep.Slices
namespace Go.Vi
open Go.Joins Go.ChangeShapes Go.WideShapes Go.RowKit Go.Deep
section
variable {H : Type} {enc : TypeId × Value -> H} {P : Program} {w : World} {base : Nat} {spare : Nat -> Bool} {held : Bool}

/-- Memory of arguments alone: they may share blocks, as they are read alone. -/
theorem MRel.args {ρ : List Place} {m : List Blk} {w : World} (hl : ρ.length = m.length) (ha : ∀ (i : Nat) (blk : Blk), m[i]? = some blk -> blk.kind.isArg = true) (hb : ∀ (i : Nat) (blk : Blk) (p : Place), m[i]? = some blk -> ρ[i]? = some p -> BRel ρ p blk w) : MRel ρ m w :=
 ⟨hl, hb, fun b b' blk blk' p p' h h' _ _ _ _ _ _ _ hf => by rw [ha b blk h, ha b' blk' h'] at hf; cases hf⟩
theorem BRel.ints {ρ ρ' : List Place} {p : Place} {k : IntKind} {l : List Int} {e : TypeId} {r : Kind} {w : World} (h : BRel ρ p ⟨.ints k l, e, r⟩ w) : BRel ρ' p ⟨.ints k l, e, r⟩ w :=
 h.sel (τ := fun _ => none) fun _ _ _ hn => by cases hn

end
/-! ### rows of structs of a number, a text and a number -/
structure Row3 where
 a : Int
 t : List UInt8
 b : Int
 deriving Inhabited, DecidableEq
section
variable {H : Type} {enc : TypeId × Value -> H} {P : Program} {w : World} {base : Nat} {spare : Nat -> Bool} {held : Bool}
theorem BRel.recs {ρ ρ' : List Place} {p : Place} {sh : List Sh} {l : List Sc} {e : TypeId} {r : Kind} {w : World} (h : BRel ρ p ⟨.recs sh l, e, r⟩ w) : BRel ρ' p ⟨.recs sh l, e, r⟩ w :=
 h.sel (τ := fun _ => none) fun _ _ _ hn => by cases hn
end
end Go.Vi
