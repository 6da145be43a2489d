/-
  DERIVED. GIVEN WITH THE SEED: THE CARDS: each row of YtlnjbdaenikkiaaDoorRows.lean that lists a variable, with what it lists TIED to the program's text (the seventh form; the later family's looks); each row that meets fmt, with fmt's text TOLD by the authors' own Lean function (tested against real Go, not proved from fmt's source: count such statements apart). THE CARD IS WHAT COUNTS. Prove the row's statement (the work); the ties are given (YtlnjbdaenikkiaaDoorTie.lean); close each card by the builder's one call (the guide's Derived/Test/ToyasCard.lean, 'card_holds'). Laid BY PROGRAM, IN A SANDBOX (cutbox-door.mjs). By AI agents, Wed Nov 11 2026. No macro, syntax, notation, axiom, sorry.
-/
import Derived.Test.YtlnjbdaenikkiaaDoorRows
import GoSem.ClaimSeven
namespace Go.Proofs.YtlnjbdaenikkiaaDoor
namespace Rows

/-- THE TIED CARD OF 'laws.FnExactEmptyScene'. -/
def fnExactEmptySceneCard : Claim7 := { stood := { row := fnExactEmptySceneRow, standIns := [], harness := (true, "27fa362afa48bc0b1dc88b69519f41d8201f734c8193349d4938b8cf9384bba3"), looks := false }, kinds := [], alts := [], laidByText := true, laidKinds := [.data], laidTests := true, laidLooks := .later }
def FnExactEmptySceneCardSaid : Prop := Claim7.holds Tryd.pinned (.plain (OpenSpec.ofChange fnExactEmptySceneSpec)) fnExactEmptySceneCard

/-- THE TIED CARD OF 'laws.FnExactIsScene'. -/
def fnExactIsSceneCard : Claim7 := { stood := { row := fnExactIsSceneRow, standIns := [], harness := (true, "27fa362afa48bc0b1dc88b69519f41d8201f734c8193349d4938b8cf9384bba3"), looks := false }, kinds := [], alts := [], laidByText := true, laidKinds := [.data], laidTests := true, laidLooks := .later }
def FnExactIsSceneCardSaid : Prop := Claim7.holds Tryd.pinned (.plain (OpenSpec.ofChange fnExactIsSceneSpec)) fnExactIsSceneCard

/-- THE TIED CARD OF 'laws.FnExactTableText'. -/
def fnExactTableTextCard : Claim7 := { stood := { row := fnExactTableTextRow, standIns := [], harness := (true, "27fa362afa48bc0b1dc88b69519f41d8201f734c8193349d4938b8cf9384bba3"), looks := false }, kinds := [], alts := [], laidByText := true, laidKinds := [.data, .data, .data, .data], laidTests := true, laidLooks := .later }
def FnExactTableTextCardSaid : Prop := Claim7.holds Tryd.pinned (.plain (OpenSpec.ofChange fnExactTableTextSpec)) fnExactTableTextCard

/-- THE TIED CARD OF 'laws.FnExactParseTable'. -/
def fnExactParseTableCard : Claim7 := { stood := { row := fnExactParseTableRow, standIns := [], harness := (true, "27fa362afa48bc0b1dc88b69519f41d8201f734c8193349d4938b8cf9384bba3"), looks := false }, kinds := [], alts := [], laidByText := true, laidKinds := [.data, .data, .data, .data], laidTests := true, laidLooks := .later }
def FnExactParseTableCardSaid : Prop := Claim7.holds Tryd.pinned (.plain (OpenSpec.ofChange fnExactParseTableSpec)) fnExactParseTableCard

/-- THE TIED CARD OF 'laws.FnExactStatesReached'. -/
def fnExactStatesReachedCard : Claim7 := { stood := { row := fnExactStatesReachedRow, standIns := [], harness := (true, "27fa362afa48bc0b1dc88b69519f41d8201f734c8193349d4938b8cf9384bba3"), looks := false }, kinds := [], alts := [], laidByText := true, laidKinds := [.data], laidTests := true, laidLooks := .later }
def FnExactStatesReachedCardSaid : Prop := Claim7.holds Tryd.pinned (.plain (OpenSpec.ofChange fnExactStatesReachedSpec)) fnExactStatesReachedCard

/-- THE SECOND FORM's CARD OF 'laws.FnExactEmptyScene'. -/
def fnExactEmptySceneUptoCard : Claim7 := { stood := { row := fnExactEmptySceneUptoRow, standIns := [], harness := (true, "27fa362afa48bc0b1dc88b69519f41d8201f734c8193349d4938b8cf9384bba3"), looks := false }, kinds := [], alts := [], laidByText := true, laidKinds := [.data], laidTests := true, laidLooks := .later }
def FnExactEmptySceneUptoCardSaid : Prop := Claim7.holds Tryd.pinned (.plain (OpenSpec.upto fnExactEmptySceneSpec)) fnExactEmptySceneUptoCard

/-- THE SECOND FORM's CARD OF 'laws.FnExactIsScene'. -/
def fnExactIsSceneUptoCard : Claim7 := { stood := { row := fnExactIsSceneUptoRow, standIns := [], harness := (true, "27fa362afa48bc0b1dc88b69519f41d8201f734c8193349d4938b8cf9384bba3"), looks := false }, kinds := [], alts := [], laidByText := true, laidKinds := [.data], laidTests := true, laidLooks := .later }
def FnExactIsSceneUptoCardSaid : Prop := Claim7.holds Tryd.pinned (.plain (OpenSpec.upto fnExactIsSceneSpec)) fnExactIsSceneUptoCard

/-- THE SECOND FORM's CARD OF 'laws.FnExactTableText'. -/
def fnExactTableTextUptoCard : Claim7 := { stood := { row := fnExactTableTextUptoRow, standIns := [], harness := (true, "27fa362afa48bc0b1dc88b69519f41d8201f734c8193349d4938b8cf9384bba3"), looks := false }, kinds := [], alts := [], laidByText := true, laidKinds := [.data, .data, .data, .data], laidTests := true, laidLooks := .later }
def FnExactTableTextUptoCardSaid : Prop := Claim7.holds Tryd.pinned (.plain (OpenSpec.upto fnExactTableTextSpec)) fnExactTableTextUptoCard

/-- THE SECOND FORM's CARD OF 'laws.FnExactParseTable'. -/
def fnExactParseTableUptoCard : Claim7 := { stood := { row := fnExactParseTableUptoRow, standIns := [], harness := (true, "27fa362afa48bc0b1dc88b69519f41d8201f734c8193349d4938b8cf9384bba3"), looks := false }, kinds := [], alts := [], laidByText := true, laidKinds := [.data, .data, .data, .data], laidTests := true, laidLooks := .later }
def FnExactParseTableUptoCardSaid : Prop := Claim7.holds Tryd.pinned (.plain (OpenSpec.upto fnExactParseTableSpec)) fnExactParseTableUptoCard

/-- THE SECOND FORM's CARD OF 'laws.FnExactStatesReached'. -/
def fnExactStatesReachedUptoCard : Claim7 := { stood := { row := fnExactStatesReachedUptoRow, standIns := [], harness := (true, "27fa362afa48bc0b1dc88b69519f41d8201f734c8193349d4938b8cf9384bba3"), looks := false }, kinds := [], alts := [], laidByText := true, laidKinds := [.data], laidTests := true, laidLooks := .later }
def FnExactStatesReachedUptoCardSaid : Prop := Claim7.holds Tryd.pinned (.plain (OpenSpec.upto fnExactStatesReachedSpec)) fnExactStatesReachedUptoCard
end Rows
end Go.Proofs.YtlnjbdaenikkiaaDoor
