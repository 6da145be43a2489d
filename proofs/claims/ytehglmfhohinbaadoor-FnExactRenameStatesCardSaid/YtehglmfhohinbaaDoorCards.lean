/-
  DERIVED. GIVEN WITH THE SEED: THE CARDS: each row of YtehglmfhohinbaaDoorRows.lean that lists a variable, with what it lists TIED to the program's text (the seventh form; the later family's looks); each row that meets fmt, with fmt's text TOLD by the authors' own Lean function (tested against real Go, not proved from fmt's source: count such statements apart). THE CARD IS WHAT COUNTS. Prove the row's statement (the work); the ties are given (YtehglmfhohinbaaDoorTie.lean); close each card by the builder's one call (the guide's Derived/Test/ToyasCard.lean, 'card_holds'). Laid BY PROGRAM, IN A SANDBOX (cutbox-door.mjs). By AI agents, Wed Nov 11 2026. No macro, syntax, notation, axiom, sorry.
-/
import Derived.Test.YtehglmfhohinbaaDoorRows
import GoSem.ClaimSeven
namespace Go.Proofs.YtehglmfhohinbaaDoor
namespace Rows

/-- THE TIED CARD OF 'laws.FnExactRenameStates'. -/
def fnExactRenameStatesCard : Claim7 := { stood := { row := fnExactRenameStatesRow, standIns := [], harness := (true, "94045b7f0a52741b402e70d1448c5a6375070ca7492b4e57a0848faa0e959413"), looks := false }, kinds := [], alts := [], laidByText := true, laidKinds := [.data], laidTests := true, laidLooks := .later }
def FnExactRenameStatesCardSaid : Prop := Claim7.holds Tryd.pinned (.plain (OpenSpec.ofChange fnExactRenameStatesSpec)) fnExactRenameStatesCard

/-- THE TIED CARD OF 'laws.FnExactRenameTints'. -/
def fnExactRenameTintsCard : Claim7 := { stood := { row := fnExactRenameTintsRow, standIns := [], harness := (true, "94045b7f0a52741b402e70d1448c5a6375070ca7492b4e57a0848faa0e959413"), looks := false }, kinds := [], alts := [], laidByText := true, laidKinds := [.data], laidTests := true, laidLooks := .later }
def FnExactRenameTintsCardSaid : Prop := Claim7.holds Tryd.pinned (.plain (OpenSpec.ofChange fnExactRenameTintsSpec)) fnExactRenameTintsCard

/-- THE TIED CARD OF 'laws.FnExactMirrorTable'. -/
def fnExactMirrorTableCard : Claim7 := { stood := { row := fnExactMirrorTableRow, standIns := [], harness := (true, "94045b7f0a52741b402e70d1448c5a6375070ca7492b4e57a0848faa0e959413"), looks := false }, kinds := [], alts := [], laidByText := true, laidKinds := [.data], laidTests := true, laidLooks := .later }
def FnExactMirrorTableCardSaid : Prop := Claim7.holds Tryd.pinned (.plain (OpenSpec.ofChange fnExactMirrorTableSpec)) fnExactMirrorTableCard

/-- THE TIED CARD OF 'laws.FnExactStatesReached'. -/
def fnExactStatesReachedCard : Claim7 := { stood := { row := fnExactStatesReachedRow, standIns := [], harness := (true, "94045b7f0a52741b402e70d1448c5a6375070ca7492b4e57a0848faa0e959413"), looks := false }, kinds := [], alts := [], laidByText := true, laidKinds := [.data], laidTests := true, laidLooks := .later }
def FnExactStatesReachedCardSaid : Prop := Claim7.holds Tryd.pinned (.plain (OpenSpec.ofChange fnExactStatesReachedSpec)) fnExactStatesReachedCard

/-- THE SECOND FORM's CARD OF 'laws.FnExactRenameStates'. -/
def fnExactRenameStatesUptoCard : Claim7 := { stood := { row := fnExactRenameStatesUptoRow, standIns := [], harness := (true, "94045b7f0a52741b402e70d1448c5a6375070ca7492b4e57a0848faa0e959413"), looks := false }, kinds := [], alts := [], laidByText := true, laidKinds := [.data], laidTests := true, laidLooks := .later }
def FnExactRenameStatesUptoCardSaid : Prop := Claim7.holds Tryd.pinned (.plain (OpenSpec.upto fnExactRenameStatesSpec)) fnExactRenameStatesUptoCard

/-- THE SECOND FORM's CARD OF 'laws.FnExactRenameTints'. -/
def fnExactRenameTintsUptoCard : Claim7 := { stood := { row := fnExactRenameTintsUptoRow, standIns := [], harness := (true, "94045b7f0a52741b402e70d1448c5a6375070ca7492b4e57a0848faa0e959413"), looks := false }, kinds := [], alts := [], laidByText := true, laidKinds := [.data], laidTests := true, laidLooks := .later }
def FnExactRenameTintsUptoCardSaid : Prop := Claim7.holds Tryd.pinned (.plain (OpenSpec.upto fnExactRenameTintsSpec)) fnExactRenameTintsUptoCard

/-- THE SECOND FORM's CARD OF 'laws.FnExactMirrorTable'. -/
def fnExactMirrorTableUptoCard : Claim7 := { stood := { row := fnExactMirrorTableUptoRow, standIns := [], harness := (true, "94045b7f0a52741b402e70d1448c5a6375070ca7492b4e57a0848faa0e959413"), looks := false }, kinds := [], alts := [], laidByText := true, laidKinds := [.data], laidTests := true, laidLooks := .later }
def FnExactMirrorTableUptoCardSaid : Prop := Claim7.holds Tryd.pinned (.plain (OpenSpec.upto fnExactMirrorTableSpec)) fnExactMirrorTableUptoCard

/-- THE SECOND FORM's CARD OF 'laws.FnExactStatesReached'. -/
def fnExactStatesReachedUptoCard : Claim7 := { stood := { row := fnExactStatesReachedUptoRow, standIns := [], harness := (true, "94045b7f0a52741b402e70d1448c5a6375070ca7492b4e57a0848faa0e959413"), looks := false }, kinds := [], alts := [], laidByText := true, laidKinds := [.data], laidTests := true, laidLooks := .later }
def FnExactStatesReachedUptoCardSaid : Prop := Claim7.holds Tryd.pinned (.plain (OpenSpec.upto fnExactStatesReachedSpec)) fnExactStatesReachedUptoCard
end Rows
end Go.Proofs.YtehglmfhohinbaaDoor
