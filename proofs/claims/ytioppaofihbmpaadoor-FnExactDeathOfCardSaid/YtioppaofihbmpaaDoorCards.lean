/-
  DERIVED. GIVEN WITH THE SEED: THE CARDS: each row of YtioppaofihbmpaaDoorRows.lean that lists a variable, with what it lists TIED to the program's text (the seventh form; the later family's looks); each row that meets fmt, with fmt's text TOLD by the authors' own Lean function (tested against real Go, not proved from fmt's source: count such statements apart). THE CARD IS WHAT COUNTS. Prove the row's statement (the work); the ties are given (YtioppaofihbmpaaDoorTie.lean); close each card by the builder's one call (the guide's Derived/Test/ToyasCard.lean, 'card_holds'). Laid BY PROGRAM, IN A SANDBOX (cutbox-door.mjs). By AI agents, Wed Nov 11 2026. No macro, syntax, notation, axiom, sorry.
-/
import Derived.Test.YtioppaofihbmpaaDoorRows
import GoSem.ClaimSeven
namespace Go.Proofs.YtioppaofihbmpaaDoor
namespace Rows

/-- THE TIED CARD OF 'laws.FnExactIsWorm'. -/
def fnExactIsWormCard : Claim7 := { stood := { row := fnExactIsWormRow, standIns := [], harness := (true, "154147c7b36faefce15356356a3b7284f4ce6f23aabe047e0c3c5e5ff32eb4c7"), looks := false }, kinds := [], alts := [], laidByText := true, laidKinds := [.data, .pinned], laidTests := true, laidLooks := .later }
def FnExactIsWormCardSaid : Prop := Claim7.holds Tryd.pinned (.plain (OpenSpec.ofChange fnExactIsWormSpec)) fnExactIsWormCard

/-- THE TIED CARD OF 'laws.FnExactIsTaste'. -/
def fnExactIsTasteCard : Claim7 := { stood := { row := fnExactIsTasteRow, standIns := [], harness := (true, "154147c7b36faefce15356356a3b7284f4ce6f23aabe047e0c3c5e5ff32eb4c7"), looks := false }, kinds := [], alts := [], laidByText := true, laidKinds := [.data], laidTests := true, laidLooks := .later }
def FnExactIsTasteCardSaid : Prop := Claim7.holds Tryd.pinned (.plain (OpenSpec.ofChange fnExactIsTasteSpec)) fnExactIsTasteCard

/-- THE TIED CARD OF 'laws.FnExactLinesLeft'. -/
def fnExactLinesLeftCard : Claim7 := { stood := { row := fnExactLinesLeftRow, standIns := [], harness := (true, "154147c7b36faefce15356356a3b7284f4ce6f23aabe047e0c3c5e5ff32eb4c7"), looks := false }, kinds := [], alts := [], laidByText := true, laidKinds := [.data, .pinned], laidTests := true, laidLooks := .later }
def FnExactLinesLeftCardSaid : Prop := Claim7.holds Tryd.pinned (.plain (OpenSpec.ofChange fnExactLinesLeftSpec)) fnExactLinesLeftCard

/-- THE TIED CARD OF 'laws.FnExactLinesAt'. -/
def fnExactLinesAtCard : Claim7 := { stood := { row := fnExactLinesAtRow, standIns := [], harness := (true, "154147c7b36faefce15356356a3b7284f4ce6f23aabe047e0c3c5e5ff32eb4c7"), looks := false }, kinds := [], alts := [], laidByText := true, laidKinds := [.data, .pinned], laidTests := true, laidLooks := .later }
def FnExactLinesAtCardSaid : Prop := Claim7.holds Tryd.pinned (.plain (OpenSpec.ofChange fnExactLinesAtSpec)) fnExactLinesAtCard

/-- THE TIED CARD OF 'laws.FnExactEatLine'. -/
def fnExactEatLineCard : Claim7 := { stood := { row := fnExactEatLineRow, standIns := [], harness := (true, "154147c7b36faefce15356356a3b7284f4ce6f23aabe047e0c3c5e5ff32eb4c7"), looks := false }, kinds := [], alts := [], laidByText := true, laidKinds := [.data, .data, .pinned], laidTests := true, laidLooks := .later }
def FnExactEatLineCardSaid : Prop := Claim7.holds Tryd.pinned (.plain (OpenSpec.ofChange fnExactEatLineSpec)) fnExactEatLineCard

/-- THE TIED CARD OF 'laws.FnExactWormAfter'. -/
def fnExactWormAfterCard : Claim7 := { stood := { row := fnExactWormAfterRow, standIns := [], harness := (true, "154147c7b36faefce15356356a3b7284f4ce6f23aabe047e0c3c5e5ff32eb4c7"), looks := false }, kinds := [], alts := [], laidByText := true, laidKinds := [.data, .data, .pinned], laidTests := true, laidLooks := .later }
def FnExactWormAfterCardSaid : Prop := Claim7.holds Tryd.pinned (.plain (OpenSpec.ofChange fnExactWormAfterSpec)) fnExactWormAfterCard

/-- THE TIED CARD OF 'laws.FnExactLifeOf'. -/
def fnExactLifeOfCard : Claim7 := { stood := { row := fnExactLifeOfRow, standIns := [], harness := (true, "154147c7b36faefce15356356a3b7284f4ce6f23aabe047e0c3c5e5ff32eb4c7"), looks := false }, kinds := [], alts := [], laidByText := true, laidKinds := [.data, .data, .pinned], laidTests := true, laidLooks := .later }
def FnExactLifeOfCardSaid : Prop := Claim7.holds Tryd.pinned (.plain (OpenSpec.ofChange fnExactLifeOfSpec)) fnExactLifeOfCard

/-- THE TIED CARD OF 'laws.FnExactDeathOf'. -/
def fnExactDeathOfCard : Claim7 := { stood := { row := fnExactDeathOfRow, standIns := [], harness := (true, "154147c7b36faefce15356356a3b7284f4ce6f23aabe047e0c3c5e5ff32eb4c7"), looks := false }, kinds := [], alts := [], laidByText := true, laidKinds := [.data, .data, .pinned], laidTests := true, laidLooks := .later }
def FnExactDeathOfCardSaid : Prop := Claim7.holds Tryd.pinned (.plain (OpenSpec.ofChange fnExactDeathOfSpec)) fnExactDeathOfCard

/-- THE TIED CARD OF 'laws.FnExactTrackOfWorm'. -/
def fnExactTrackOfWormCard : Claim7 := { stood := { row := fnExactTrackOfWormRow, standIns := [], harness := (true, "154147c7b36faefce15356356a3b7284f4ce6f23aabe047e0c3c5e5ff32eb4c7"), looks := false }, kinds := [], alts := [], laidByText := true, laidKinds := [.data, .data, .pinned], laidTests := true, laidLooks := .later }
def FnExactTrackOfWormCardSaid : Prop := Claim7.holds Tryd.pinned (.plain (OpenSpec.ofChange fnExactTrackOfWormSpec)) fnExactTrackOfWormCard

/-- THE TIED CARD OF 'laws.FnExactMealsOfWorm'. -/
def fnExactMealsOfWormCard : Claim7 := { stood := { row := fnExactMealsOfWormRow, standIns := [], harness := (true, "154147c7b36faefce15356356a3b7284f4ce6f23aabe047e0c3c5e5ff32eb4c7"), looks := false }, kinds := [], alts := [], laidByText := true, laidKinds := [.data, .data, .pinned], laidTests := true, laidLooks := .later }
def FnExactMealsOfWormCardSaid : Prop := Claim7.holds Tryd.pinned (.plain (OpenSpec.ofChange fnExactMealsOfWormSpec)) fnExactMealsOfWormCard

/-- THE TIED CARD OF 'laws.FnExactGiveBack'. -/
def fnExactGiveBackCard : Claim7 := { stood := { row := fnExactGiveBackRow, standIns := [], harness := (true, "154147c7b36faefce15356356a3b7284f4ce6f23aabe047e0c3c5e5ff32eb4c7"), looks := false }, kinds := [], alts := [], laidByText := true, laidKinds := [.data, .pinned], laidTests := true, laidLooks := .later }
def FnExactGiveBackCardSaid : Prop := Claim7.holds Tryd.pinned (.plain (OpenSpec.ofChange fnExactGiveBackSpec)) fnExactGiveBackCard

/-- THE SECOND FORM's CARD OF 'laws.FnExactIsWorm'. -/
def fnExactIsWormUptoCard : Claim7 := { stood := { row := fnExactIsWormUptoRow, standIns := [], harness := (true, "154147c7b36faefce15356356a3b7284f4ce6f23aabe047e0c3c5e5ff32eb4c7"), looks := false }, kinds := [], alts := [], laidByText := true, laidKinds := [.data, .pinned], laidTests := true, laidLooks := .later }
def FnExactIsWormUptoCardSaid : Prop := Claim7.holds Tryd.pinned (.plain (OpenSpec.upto fnExactIsWormSpec)) fnExactIsWormUptoCard

/-- THE SECOND FORM's CARD OF 'laws.FnExactIsTaste'. -/
def fnExactIsTasteUptoCard : Claim7 := { stood := { row := fnExactIsTasteUptoRow, standIns := [], harness := (true, "154147c7b36faefce15356356a3b7284f4ce6f23aabe047e0c3c5e5ff32eb4c7"), looks := false }, kinds := [], alts := [], laidByText := true, laidKinds := [.data], laidTests := true, laidLooks := .later }
def FnExactIsTasteUptoCardSaid : Prop := Claim7.holds Tryd.pinned (.plain (OpenSpec.upto fnExactIsTasteSpec)) fnExactIsTasteUptoCard

/-- THE SECOND FORM's CARD OF 'laws.FnExactLinesLeft'. -/
def fnExactLinesLeftUptoCard : Claim7 := { stood := { row := fnExactLinesLeftUptoRow, standIns := [], harness := (true, "154147c7b36faefce15356356a3b7284f4ce6f23aabe047e0c3c5e5ff32eb4c7"), looks := false }, kinds := [], alts := [], laidByText := true, laidKinds := [.data, .pinned], laidTests := true, laidLooks := .later }
def FnExactLinesLeftUptoCardSaid : Prop := Claim7.holds Tryd.pinned (.plain (OpenSpec.upto fnExactLinesLeftSpec)) fnExactLinesLeftUptoCard

/-- THE SECOND FORM's CARD OF 'laws.FnExactLinesAt'. -/
def fnExactLinesAtUptoCard : Claim7 := { stood := { row := fnExactLinesAtUptoRow, standIns := [], harness := (true, "154147c7b36faefce15356356a3b7284f4ce6f23aabe047e0c3c5e5ff32eb4c7"), looks := false }, kinds := [], alts := [], laidByText := true, laidKinds := [.data, .pinned], laidTests := true, laidLooks := .later }
def FnExactLinesAtUptoCardSaid : Prop := Claim7.holds Tryd.pinned (.plain (OpenSpec.upto fnExactLinesAtSpec)) fnExactLinesAtUptoCard

/-- THE SECOND FORM's CARD OF 'laws.FnExactEatLine'. -/
def fnExactEatLineUptoCard : Claim7 := { stood := { row := fnExactEatLineUptoRow, standIns := [], harness := (true, "154147c7b36faefce15356356a3b7284f4ce6f23aabe047e0c3c5e5ff32eb4c7"), looks := false }, kinds := [], alts := [], laidByText := true, laidKinds := [.data, .data, .pinned], laidTests := true, laidLooks := .later }
def FnExactEatLineUptoCardSaid : Prop := Claim7.holds Tryd.pinned (.plain (OpenSpec.upto fnExactEatLineSpec)) fnExactEatLineUptoCard

/-- THE SECOND FORM's CARD OF 'laws.FnExactWormAfter'. -/
def fnExactWormAfterUptoCard : Claim7 := { stood := { row := fnExactWormAfterUptoRow, standIns := [], harness := (true, "154147c7b36faefce15356356a3b7284f4ce6f23aabe047e0c3c5e5ff32eb4c7"), looks := false }, kinds := [], alts := [], laidByText := true, laidKinds := [.data, .data, .pinned], laidTests := true, laidLooks := .later }
def FnExactWormAfterUptoCardSaid : Prop := Claim7.holds Tryd.pinned (.plain (OpenSpec.upto fnExactWormAfterSpec)) fnExactWormAfterUptoCard

/-- THE SECOND FORM's CARD OF 'laws.FnExactLifeOf'. -/
def fnExactLifeOfUptoCard : Claim7 := { stood := { row := fnExactLifeOfUptoRow, standIns := [], harness := (true, "154147c7b36faefce15356356a3b7284f4ce6f23aabe047e0c3c5e5ff32eb4c7"), looks := false }, kinds := [], alts := [], laidByText := true, laidKinds := [.data, .data, .pinned], laidTests := true, laidLooks := .later }
def FnExactLifeOfUptoCardSaid : Prop := Claim7.holds Tryd.pinned (.plain (OpenSpec.upto fnExactLifeOfSpec)) fnExactLifeOfUptoCard

/-- THE SECOND FORM's CARD OF 'laws.FnExactDeathOf'. -/
def fnExactDeathOfUptoCard : Claim7 := { stood := { row := fnExactDeathOfUptoRow, standIns := [], harness := (true, "154147c7b36faefce15356356a3b7284f4ce6f23aabe047e0c3c5e5ff32eb4c7"), looks := false }, kinds := [], alts := [], laidByText := true, laidKinds := [.data, .data, .pinned], laidTests := true, laidLooks := .later }
def FnExactDeathOfUptoCardSaid : Prop := Claim7.holds Tryd.pinned (.plain (OpenSpec.upto fnExactDeathOfSpec)) fnExactDeathOfUptoCard

/-- THE SECOND FORM's CARD OF 'laws.FnExactTrackOfWorm'. -/
def fnExactTrackOfWormUptoCard : Claim7 := { stood := { row := fnExactTrackOfWormUptoRow, standIns := [], harness := (true, "154147c7b36faefce15356356a3b7284f4ce6f23aabe047e0c3c5e5ff32eb4c7"), looks := false }, kinds := [], alts := [], laidByText := true, laidKinds := [.data, .data, .pinned], laidTests := true, laidLooks := .later }
def FnExactTrackOfWormUptoCardSaid : Prop := Claim7.holds Tryd.pinned (.plain (OpenSpec.upto fnExactTrackOfWormSpec)) fnExactTrackOfWormUptoCard

/-- THE SECOND FORM's CARD OF 'laws.FnExactMealsOfWorm'. -/
def fnExactMealsOfWormUptoCard : Claim7 := { stood := { row := fnExactMealsOfWormUptoRow, standIns := [], harness := (true, "154147c7b36faefce15356356a3b7284f4ce6f23aabe047e0c3c5e5ff32eb4c7"), looks := false }, kinds := [], alts := [], laidByText := true, laidKinds := [.data, .data, .pinned], laidTests := true, laidLooks := .later }
def FnExactMealsOfWormUptoCardSaid : Prop := Claim7.holds Tryd.pinned (.plain (OpenSpec.upto fnExactMealsOfWormSpec)) fnExactMealsOfWormUptoCard

/-- THE SECOND FORM's CARD OF 'laws.FnExactGiveBack'. -/
def fnExactGiveBackUptoCard : Claim7 := { stood := { row := fnExactGiveBackUptoRow, standIns := [], harness := (true, "154147c7b36faefce15356356a3b7284f4ce6f23aabe047e0c3c5e5ff32eb4c7"), looks := false }, kinds := [], alts := [], laidByText := true, laidKinds := [.data, .pinned], laidTests := true, laidLooks := .later }
def FnExactGiveBackUptoCardSaid : Prop := Claim7.holds Tryd.pinned (.plain (OpenSpec.upto fnExactGiveBackSpec)) fnExactGiveBackUptoCard
end Rows
end Go.Proofs.YtioppaofihbmpaaDoor
