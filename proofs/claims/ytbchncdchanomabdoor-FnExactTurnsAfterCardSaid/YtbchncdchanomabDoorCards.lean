/-
  DERIVED. GIVEN WITH THE SEED: THE CARDS: each row of YtbchncdchanomabDoorRows.lean that lists a variable, with what it lists TIED to the program's text (the seventh form; the later family's looks); each row that meets fmt, with fmt's text TOLD by the authors' own Lean function (tested against real Go, not proved from fmt's source: count such statements apart). THE CARD IS WHAT COUNTS. Prove the row's statement (the work); the ties are given (YtbchncdchanomabDoorTie.lean); close each card by the builder's one call (the guide's Derived/Test/ToyasCard.lean, 'card_holds'). Laid BY PROGRAM, IN A SANDBOX (cutbox-door.mjs). By AI agents, Wed Nov 11 2026. No macro, syntax, notation, axiom, sorry.
-/
import Derived.Test.YtbchncdchanomabDoorRows
import GoSem.ClaimSeven
namespace Go.Proofs.YtbchncdchanomabDoor
namespace Rows

/-- THE TIED CARD OF 'laws.FnExactTurnsAfter'. -/
def fnExactTurnsAfterCard : Claim7 := { stood := { row := fnExactTurnsAfterRow, standIns := [], harness := (true, "61fea08b153ba4933fe819b42765bee0ec5a97704b9f02f055ab3a507e73a628"), looks := false }, kinds := [], alts := [], laidByText := true, laidKinds := [.data, .data, .data], laidTests := true, laidLooks := .later }
def FnExactTurnsAfterCardSaid : Prop := Claim7.holds Tryd.pinned (.plain (OpenSpec.ofChange fnExactTurnsAfterSpec)) fnExactTurnsAfterCard

/-- THE TIED CARD OF 'laws.FnExactParseWorld'. -/
def fnExactParseWorldCard : Claim7 := { stood := { row := fnExactParseWorldRow, standIns := [], harness := (true, "61fea08b153ba4933fe819b42765bee0ec5a97704b9f02f055ab3a507e73a628"), looks := false }, kinds := [], alts := [], laidByText := true, laidKinds := [.data, .data, .data, .data, .pinned], laidTests := true, laidLooks := .later }
def FnExactParseWorldCardSaid : Prop := Claim7.holds Tryd.pinned (.plain (OpenSpec.ofChange fnExactParseWorldSpec)) fnExactParseWorldCard

/-- THE TIED CARD OF 'laws.FnExactPictureOf'. -/
def fnExactPictureOfCard : Claim7 := { stood := { row := fnExactPictureOfRow, standIns := [], harness := (true, "61fea08b153ba4933fe819b42765bee0ec5a97704b9f02f055ab3a507e73a628"), looks := false }, kinds := [], alts := [], laidByText := true, laidKinds := [.data, .data, .data], laidTests := true, laidLooks := .later }
def FnExactPictureOfCardSaid : Prop := Claim7.holds Tryd.pinned (.plain (OpenSpec.ofChange fnExactPictureOfSpec)) fnExactPictureOfCard

/-- THE SECOND FORM's CARD OF 'laws.FnExactTurnsAfter'. -/
def fnExactTurnsAfterUptoCard : Claim7 := { stood := { row := fnExactTurnsAfterUptoRow, standIns := [], harness := (true, "61fea08b153ba4933fe819b42765bee0ec5a97704b9f02f055ab3a507e73a628"), looks := false }, kinds := [], alts := [], laidByText := true, laidKinds := [.data, .data, .data], laidTests := true, laidLooks := .later }
def FnExactTurnsAfterUptoCardSaid : Prop := Claim7.holds Tryd.pinned (.plain (OpenSpec.upto fnExactTurnsAfterSpec)) fnExactTurnsAfterUptoCard

/-- THE SECOND FORM's CARD OF 'laws.FnExactParseWorld'. -/
def fnExactParseWorldUptoCard : Claim7 := { stood := { row := fnExactParseWorldUptoRow, standIns := [], harness := (true, "61fea08b153ba4933fe819b42765bee0ec5a97704b9f02f055ab3a507e73a628"), looks := false }, kinds := [], alts := [], laidByText := true, laidKinds := [.data, .data, .data, .data, .pinned], laidTests := true, laidLooks := .later }
def FnExactParseWorldUptoCardSaid : Prop := Claim7.holds Tryd.pinned (.plain (OpenSpec.upto fnExactParseWorldSpec)) fnExactParseWorldUptoCard

/-- THE SECOND FORM's CARD OF 'laws.FnExactPictureOf'. -/
def fnExactPictureOfUptoCard : Claim7 := { stood := { row := fnExactPictureOfUptoRow, standIns := [], harness := (true, "61fea08b153ba4933fe819b42765bee0ec5a97704b9f02f055ab3a507e73a628"), looks := false }, kinds := [], alts := [], laidByText := true, laidKinds := [.data, .data, .data], laidTests := true, laidLooks := .later }
def FnExactPictureOfUptoCardSaid : Prop := Claim7.holds Tryd.pinned (.plain (OpenSpec.upto fnExactPictureOfSpec)) fnExactPictureOfUptoCard
end Rows
end Go.Proofs.YtbchncdchanomabDoor
