/-
  DERIVED. GIVEN WITH THE SEED: THE CARDS: each row of YteleacldecambaaDoorRows.lean that lists a variable, with what it lists TIED to the program's text (the seventh form; the later family's looks); each row that meets fmt, with fmt's text TOLD by the authors' own Lean function (tested against real Go, not proved from fmt's source: count such statements apart). THE CARD IS WHAT COUNTS. Prove the row's statement (the work); the ties are given (YteleacldecambaaDoorTie.lean); close each card by the builder's one call (the guide's Derived/Test/ToyasCard.lean, 'card_holds'). Laid BY PROGRAM, IN A SANDBOX (cutbox-door.mjs). By AI agents, Wed Nov 11 2026. No macro, syntax, notation, axiom, sorry.
-/
import Derived.Test.YteleacldecambaaDoorRows
import GoSem.ClaimSeven
namespace Go.Proofs.YteleacldecambaaDoor
namespace Rows

/-- THE TIED CARD OF 'laws.FnExactHitCell'. -/
def fnExactHitCellCard : Claim7 := { stood := { row := fnExactHitCellRow, standIns := [], harness := (true, "11e15bc5f79710d50788b184f19491fd989aad20240e6414eb7aecf2ad22d0ee"), looks := false }, kinds := [], alts := [], laidByText := true, laidKinds := [.data, .pinned], laidTests := true, laidLooks := .later }
def FnExactHitCellCardSaid : Prop := Claim7.holds Tryd.pinned (.plain (OpenSpec.ofChange fnExactHitCellSpec)) fnExactHitCellCard

/-- THE TIED CARD OF 'laws.FnExactCountTracks'. -/
def fnExactCountTracksCard : Claim7 := { stood := { row := fnExactCountTracksRow, standIns := [], harness := (true, "11e15bc5f79710d50788b184f19491fd989aad20240e6414eb7aecf2ad22d0ee"), looks := false }, kinds := [], alts := [], laidByText := true, laidKinds := [.data, .pinned], laidTests := true, laidLooks := .later }
def FnExactCountTracksCardSaid : Prop := Claim7.holds Tryd.pinned (.plain (OpenSpec.ofChange fnExactCountTracksSpec)) fnExactCountTracksCard

/-- THE TIED CARD OF 'laws.FnExactParseMaze'. -/
def fnExactParseMazeCard : Claim7 := { stood := { row := fnExactParseMazeRow, standIns := [], harness := (true, "11e15bc5f79710d50788b184f19491fd989aad20240e6414eb7aecf2ad22d0ee"), looks := false }, kinds := [], alts := [], laidByText := true, laidKinds := [.data, .data, .data, .data, .pinned], laidTests := true, laidLooks := .later }
def FnExactParseMazeCardSaid : Prop := Claim7.holds Tryd.pinned (.plain (OpenSpec.ofChange fnExactParseMazeSpec)) fnExactParseMazeCard

/-- THE TIED CARD OF 'laws.FnExactParseWorld'. -/
def fnExactParseWorldCard : Claim7 := { stood := { row := fnExactParseWorldRow, standIns := [], harness := (true, "11e15bc5f79710d50788b184f19491fd989aad20240e6414eb7aecf2ad22d0ee"), looks := false }, kinds := [], alts := [], laidByText := true, laidKinds := [.data, .data, .data, .data, .pinned], laidTests := true, laidLooks := .later }
def FnExactParseWorldCardSaid : Prop := Claim7.holds Tryd.pinned (.plain (OpenSpec.ofChange fnExactParseWorldSpec)) fnExactParseWorldCard

/-- THE SECOND FORM's CARD OF 'laws.FnExactHitCell'. -/
def fnExactHitCellUptoCard : Claim7 := { stood := { row := fnExactHitCellUptoRow, standIns := [], harness := (true, "11e15bc5f79710d50788b184f19491fd989aad20240e6414eb7aecf2ad22d0ee"), looks := false }, kinds := [], alts := [], laidByText := true, laidKinds := [.data, .pinned], laidTests := true, laidLooks := .later }
def FnExactHitCellUptoCardSaid : Prop := Claim7.holds Tryd.pinned (.plain (OpenSpec.upto fnExactHitCellSpec)) fnExactHitCellUptoCard

/-- THE SECOND FORM's CARD OF 'laws.FnExactCountTracks'. -/
def fnExactCountTracksUptoCard : Claim7 := { stood := { row := fnExactCountTracksUptoRow, standIns := [], harness := (true, "11e15bc5f79710d50788b184f19491fd989aad20240e6414eb7aecf2ad22d0ee"), looks := false }, kinds := [], alts := [], laidByText := true, laidKinds := [.data, .pinned], laidTests := true, laidLooks := .later }
def FnExactCountTracksUptoCardSaid : Prop := Claim7.holds Tryd.pinned (.plain (OpenSpec.upto fnExactCountTracksSpec)) fnExactCountTracksUptoCard

/-- THE SECOND FORM's CARD OF 'laws.FnExactParseMaze'. -/
def fnExactParseMazeUptoCard : Claim7 := { stood := { row := fnExactParseMazeUptoRow, standIns := [], harness := (true, "11e15bc5f79710d50788b184f19491fd989aad20240e6414eb7aecf2ad22d0ee"), looks := false }, kinds := [], alts := [], laidByText := true, laidKinds := [.data, .data, .data, .data, .pinned], laidTests := true, laidLooks := .later }
def FnExactParseMazeUptoCardSaid : Prop := Claim7.holds Tryd.pinned (.plain (OpenSpec.upto fnExactParseMazeSpec)) fnExactParseMazeUptoCard

/-- THE SECOND FORM's CARD OF 'laws.FnExactParseWorld'. -/
def fnExactParseWorldUptoCard : Claim7 := { stood := { row := fnExactParseWorldUptoRow, standIns := [], harness := (true, "11e15bc5f79710d50788b184f19491fd989aad20240e6414eb7aecf2ad22d0ee"), looks := false }, kinds := [], alts := [], laidByText := true, laidKinds := [.data, .data, .data, .data, .pinned], laidTests := true, laidLooks := .later }
def FnExactParseWorldUptoCardSaid : Prop := Claim7.holds Tryd.pinned (.plain (OpenSpec.upto fnExactParseWorldSpec)) fnExactParseWorldUptoCard
end Rows
end Go.Proofs.YteleacldecambaaDoor
