/-
  DERIVED. GIVEN WITH THE SEED: THE CARDS: each row of YtccahaefpbkelabDoorRows.lean that lists a variable, with what it lists TIED to the program's text (the seventh form; the later family's looks); each row that meets fmt, with fmt's text TOLD by the authors' own Lean function (tested against real Go, not proved from fmt's source: count such statements apart). THE CARD IS WHAT COUNTS. Prove the row's statement (the work); the ties are given (YtccahaefpbkelabDoorTie.lean); close each card by the builder's one call (the guide's Derived/Test/ToyasCard.lean, 'card_holds'). Laid BY PROGRAM, IN A SANDBOX (cutbox-door.mjs). By AI agents, Wed Nov 11 2026. No macro, syntax, notation, axiom, sorry.
-/
import Derived.Test.YtccahaefpbkelabDoorRows
import GoSem.ClaimSeven
namespace Go.Proofs.YtccahaefpbkelabDoor
namespace Rows

/-- THE TIED CARD OF 'laws.FnExactTurnsAfter'. -/
def fnExactTurnsAfterCard : Claim7 := { stood := { row := fnExactTurnsAfterRow, standIns := [], harness := (true, "fb794bc2b0b0a368ad87a01dfdc5f4d42bfd7c82570bf0bf004952e70e34df86"), looks := false }, kinds := [], alts := [], laidByText := true, laidKinds := [.data, .data, .data], laidTests := true, laidLooks := .later }
def FnExactTurnsAfterCardSaid : Prop := Claim7.holds Tryd.pinned (.plain (OpenSpec.ofChange fnExactTurnsAfterSpec)) fnExactTurnsAfterCard

/-- THE TIED CARD OF 'laws.FnExactWorldText'. -/
def fnExactWorldTextCard : Claim7 := { stood := { row := fnExactWorldTextRow, standIns := [], harness := (true, "fb794bc2b0b0a368ad87a01dfdc5f4d42bfd7c82570bf0bf004952e70e34df86"), looks := false }, kinds := [], alts := [], laidByText := true, laidKinds := [.data, .data, .data], laidTests := true, laidLooks := .later }
def FnExactWorldTextCardSaid : Prop := Claim7.holds Tryd.pinned (.plain (OpenSpec.ofChange fnExactWorldTextSpec)) fnExactWorldTextCard

/-- THE TIED CARD OF 'laws.FnExactParseWorld'. -/
def fnExactParseWorldCard : Claim7 := { stood := { row := fnExactParseWorldRow, standIns := [], harness := (true, "fb794bc2b0b0a368ad87a01dfdc5f4d42bfd7c82570bf0bf004952e70e34df86"), looks := false }, kinds := [], alts := [], laidByText := true, laidKinds := [.data, .data, .data, .data, .pinned], laidTests := true, laidLooks := .later }
def FnExactParseWorldCardSaid : Prop := Claim7.holds Tryd.pinned (.plain (OpenSpec.ofChange fnExactParseWorldSpec)) fnExactParseWorldCard

/-- THE SECOND FORM's CARD OF 'laws.FnExactTurnsAfter'. -/
def fnExactTurnsAfterUptoCard : Claim7 := { stood := { row := fnExactTurnsAfterUptoRow, standIns := [], harness := (true, "fb794bc2b0b0a368ad87a01dfdc5f4d42bfd7c82570bf0bf004952e70e34df86"), looks := false }, kinds := [], alts := [], laidByText := true, laidKinds := [.data, .data, .data], laidTests := true, laidLooks := .later }
def FnExactTurnsAfterUptoCardSaid : Prop := Claim7.holds Tryd.pinned (.plain (OpenSpec.upto fnExactTurnsAfterSpec)) fnExactTurnsAfterUptoCard

/-- THE SECOND FORM's CARD OF 'laws.FnExactWorldText'. -/
def fnExactWorldTextUptoCard : Claim7 := { stood := { row := fnExactWorldTextUptoRow, standIns := [], harness := (true, "fb794bc2b0b0a368ad87a01dfdc5f4d42bfd7c82570bf0bf004952e70e34df86"), looks := false }, kinds := [], alts := [], laidByText := true, laidKinds := [.data, .data, .data], laidTests := true, laidLooks := .later }
def FnExactWorldTextUptoCardSaid : Prop := Claim7.holds Tryd.pinned (.plain (OpenSpec.upto fnExactWorldTextSpec)) fnExactWorldTextUptoCard

/-- THE SECOND FORM's CARD OF 'laws.FnExactParseWorld'. -/
def fnExactParseWorldUptoCard : Claim7 := { stood := { row := fnExactParseWorldUptoRow, standIns := [], harness := (true, "fb794bc2b0b0a368ad87a01dfdc5f4d42bfd7c82570bf0bf004952e70e34df86"), looks := false }, kinds := [], alts := [], laidByText := true, laidKinds := [.data, .data, .data, .data, .pinned], laidTests := true, laidLooks := .later }
def FnExactParseWorldUptoCardSaid : Prop := Claim7.holds Tryd.pinned (.plain (OpenSpec.upto fnExactParseWorldSpec)) fnExactParseWorldUptoCard
end Rows
end Go.Proofs.YtccahaefpbkelabDoor
