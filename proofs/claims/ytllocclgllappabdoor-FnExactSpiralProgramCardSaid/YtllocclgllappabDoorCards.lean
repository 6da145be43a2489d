/-
  DERIVED. GIVEN WITH THE SEED: THE CARDS: each row of YtllocclgllappabDoorRows.lean that lists a variable, with what it lists TIED to the program's text (the seventh form; the later family's looks); each row that meets fmt, with fmt's text TOLD by the authors' own Lean function (tested against real Go, not proved from fmt's source: count such statements apart). THE CARD IS WHAT COUNTS. Prove the row's statement (the work); the ties are given (YtllocclgllappabDoorTie.lean); close each card by the builder's one call (the guide's Derived/Test/ToyasCard.lean, 'card_holds'). Laid BY PROGRAM, IN A SANDBOX (cutbox-door.mjs). By AI agents, Wed Nov 11 2026. No macro, syntax, notation, axiom, sorry.
-/
import Derived.Test.YtllocclgllappabDoorRows
import GoSem.ClaimSeven
namespace Go.Proofs.YtllocclgllappabDoor
namespace Rows

/-- THE TIED CARD OF 'laws.FnExactSpiralProgram'. -/
def fnExactSpiralProgramCard : Claim7 := { stood := { row := fnExactSpiralProgramRow, standIns := [], harness := (true, "c6d63ad2e11befc4f68ff818c21590efda7911693977b1460b35b1ffd45572bd"), looks := false }, kinds := [], alts := [], laidByText := true, laidKinds := [.data, .data, .data], laidTests := true, laidLooks := .later }
def FnExactSpiralProgramCardSaid : Prop := Claim7.holds Tryd.pinned (.plain (OpenSpec.ofChange fnExactSpiralProgramSpec)) fnExactSpiralProgramCard

/-- THE TIED CARD OF 'laws.FnExactBackProgram'. -/
def fnExactBackProgramCard : Claim7 := { stood := { row := fnExactBackProgramRow, standIns := [], harness := (true, "c6d63ad2e11befc4f68ff818c21590efda7911693977b1460b35b1ffd45572bd"), looks := false }, kinds := [], alts := [], laidByText := true, laidKinds := [.data, .data, .data], laidTests := true, laidLooks := .later }
def FnExactBackProgramCardSaid : Prop := Claim7.holds Tryd.pinned (.plain (OpenSpec.ofChange fnExactBackProgramSpec)) fnExactBackProgramCard

/-- THE TIED CARD OF 'laws.FnExactGrowProgram'. -/
def fnExactGrowProgramCard : Claim7 := { stood := { row := fnExactGrowProgramRow, standIns := [], harness := (true, "c6d63ad2e11befc4f68ff818c21590efda7911693977b1460b35b1ffd45572bd"), looks := false }, kinds := [], alts := [], laidByText := true, laidKinds := [.data, .data, .data], laidTests := true, laidLooks := .later }
def FnExactGrowProgramCardSaid : Prop := Claim7.holds Tryd.pinned (.plain (OpenSpec.ofChange fnExactGrowProgramSpec)) fnExactGrowProgramCard

/-- THE SECOND FORM's CARD OF 'laws.FnExactSpiralProgram'. -/
def fnExactSpiralProgramUptoCard : Claim7 := { stood := { row := fnExactSpiralProgramUptoRow, standIns := [], harness := (true, "c6d63ad2e11befc4f68ff818c21590efda7911693977b1460b35b1ffd45572bd"), looks := false }, kinds := [], alts := [], laidByText := true, laidKinds := [.data, .data, .data], laidTests := true, laidLooks := .later }
def FnExactSpiralProgramUptoCardSaid : Prop := Claim7.holds Tryd.pinned (.plain (OpenSpec.upto fnExactSpiralProgramSpec)) fnExactSpiralProgramUptoCard

/-- THE SECOND FORM's CARD OF 'laws.FnExactBackProgram'. -/
def fnExactBackProgramUptoCard : Claim7 := { stood := { row := fnExactBackProgramUptoRow, standIns := [], harness := (true, "c6d63ad2e11befc4f68ff818c21590efda7911693977b1460b35b1ffd45572bd"), looks := false }, kinds := [], alts := [], laidByText := true, laidKinds := [.data, .data, .data], laidTests := true, laidLooks := .later }
def FnExactBackProgramUptoCardSaid : Prop := Claim7.holds Tryd.pinned (.plain (OpenSpec.upto fnExactBackProgramSpec)) fnExactBackProgramUptoCard

/-- THE SECOND FORM's CARD OF 'laws.FnExactGrowProgram'. -/
def fnExactGrowProgramUptoCard : Claim7 := { stood := { row := fnExactGrowProgramUptoRow, standIns := [], harness := (true, "c6d63ad2e11befc4f68ff818c21590efda7911693977b1460b35b1ffd45572bd"), looks := false }, kinds := [], alts := [], laidByText := true, laidKinds := [.data, .data, .data], laidTests := true, laidLooks := .later }
def FnExactGrowProgramUptoCardSaid : Prop := Claim7.holds Tryd.pinned (.plain (OpenSpec.upto fnExactGrowProgramSpec)) fnExactGrowProgramUptoCard
end Rows
end Go.Proofs.YtllocclgllappabDoor
