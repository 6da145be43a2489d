/-
  DERIVED. GIVEN WITH THE SEED: THE CARDS: each row of YtbchncdchanomacDoorRows.lean that lists a variable, with what it lists TIED to the program's text (the seventh form; the later family's looks); each row that meets fmt, with fmt's text TOLD by the authors' own Lean function (tested against real Go, not proved from fmt's source: count such statements apart). THE CARD IS WHAT COUNTS. Prove the row's statement (the work); the ties are given (YtbchncdchanomacDoorTie.lean); close each card by the builder's one call (the guide's Derived/Test/ToyasCard.lean, 'card_holds'). Laid BY PROGRAM, IN A SANDBOX (cutbox-door.mjs). By AI agents, Wed Nov 11 2026. No macro, syntax, notation, axiom, sorry.
-/
import Derived.Test.YtbchncdchanomacDoorRows
import GoSem.ClaimSeven
namespace Go.Proofs.YtbchncdchanomacDoor
namespace Rows

/-- THE TIED CARD OF 'laws.FnExactStepWorld'. -/
def fnExactStepWorldCard : Claim7 := { stood := { row := fnExactStepWorldRow, standIns := [], harness := (true, "7d9094276736f2cc2a094727cf89d9354424ca790c375ffe2200aef483f1fce8"), looks := false }, kinds := [], alts := [], laidByText := true, laidKinds := [.data, .data, .data], laidTests := true, laidLooks := .later }
def FnExactStepWorldCardSaid : Prop := Claim7.holds Tryd.pinned (.plain (OpenSpec.ofChange fnExactStepWorldSpec)) fnExactStepWorldCard

/-- THE TIED CARD OF 'laws.FnExactWorldAfter'. -/
def fnExactWorldAfterCard : Claim7 := { stood := { row := fnExactWorldAfterRow, standIns := [], harness := (true, "7d9094276736f2cc2a094727cf89d9354424ca790c375ffe2200aef483f1fce8"), looks := false }, kinds := [], alts := [], laidByText := true, laidKinds := [.data, .data, .data], laidTests := true, laidLooks := .later }
def FnExactWorldAfterCardSaid : Prop := Claim7.holds Tryd.pinned (.plain (OpenSpec.ofChange fnExactWorldAfterSpec)) fnExactWorldAfterCard

/-- THE TIED CARD OF 'laws.FnExactStepBack'. -/
def fnExactStepBackCard : Claim7 := { stood := { row := fnExactStepBackRow, standIns := [], harness := (true, "7d9094276736f2cc2a094727cf89d9354424ca790c375ffe2200aef483f1fce8"), looks := false }, kinds := [], alts := [], laidByText := true, laidKinds := [.data, .data, .data], laidTests := true, laidLooks := .later }
def FnExactStepBackCardSaid : Prop := Claim7.holds Tryd.pinned (.plain (OpenSpec.ofChange fnExactStepBackSpec)) fnExactStepBackCard

/-- THE TIED CARD OF 'laws.FnExactWorldBefore'. -/
def fnExactWorldBeforeCard : Claim7 := { stood := { row := fnExactWorldBeforeRow, standIns := [], harness := (true, "7d9094276736f2cc2a094727cf89d9354424ca790c375ffe2200aef483f1fce8"), looks := false }, kinds := [], alts := [], laidByText := true, laidKinds := [.data, .data, .data], laidTests := true, laidLooks := .later }
def FnExactWorldBeforeCardSaid : Prop := Claim7.holds Tryd.pinned (.plain (OpenSpec.ofChange fnExactWorldBeforeSpec)) fnExactWorldBeforeCard

/-- THE SECOND FORM's CARD OF 'laws.FnExactStepWorld'. -/
def fnExactStepWorldUptoCard : Claim7 := { stood := { row := fnExactStepWorldUptoRow, standIns := [], harness := (true, "7d9094276736f2cc2a094727cf89d9354424ca790c375ffe2200aef483f1fce8"), looks := false }, kinds := [], alts := [], laidByText := true, laidKinds := [.data, .data, .data], laidTests := true, laidLooks := .later }
def FnExactStepWorldUptoCardSaid : Prop := Claim7.holds Tryd.pinned (.plain (OpenSpec.upto fnExactStepWorldSpec)) fnExactStepWorldUptoCard

/-- THE SECOND FORM's CARD OF 'laws.FnExactWorldAfter'. -/
def fnExactWorldAfterUptoCard : Claim7 := { stood := { row := fnExactWorldAfterUptoRow, standIns := [], harness := (true, "7d9094276736f2cc2a094727cf89d9354424ca790c375ffe2200aef483f1fce8"), looks := false }, kinds := [], alts := [], laidByText := true, laidKinds := [.data, .data, .data], laidTests := true, laidLooks := .later }
def FnExactWorldAfterUptoCardSaid : Prop := Claim7.holds Tryd.pinned (.plain (OpenSpec.upto fnExactWorldAfterSpec)) fnExactWorldAfterUptoCard

/-- THE SECOND FORM's CARD OF 'laws.FnExactStepBack'. -/
def fnExactStepBackUptoCard : Claim7 := { stood := { row := fnExactStepBackUptoRow, standIns := [], harness := (true, "7d9094276736f2cc2a094727cf89d9354424ca790c375ffe2200aef483f1fce8"), looks := false }, kinds := [], alts := [], laidByText := true, laidKinds := [.data, .data, .data], laidTests := true, laidLooks := .later }
def FnExactStepBackUptoCardSaid : Prop := Claim7.holds Tryd.pinned (.plain (OpenSpec.upto fnExactStepBackSpec)) fnExactStepBackUptoCard

/-- THE SECOND FORM's CARD OF 'laws.FnExactWorldBefore'. -/
def fnExactWorldBeforeUptoCard : Claim7 := { stood := { row := fnExactWorldBeforeUptoRow, standIns := [], harness := (true, "7d9094276736f2cc2a094727cf89d9354424ca790c375ffe2200aef483f1fce8"), looks := false }, kinds := [], alts := [], laidByText := true, laidKinds := [.data, .data, .data], laidTests := true, laidLooks := .later }
def FnExactWorldBeforeUptoCardSaid : Prop := Claim7.holds Tryd.pinned (.plain (OpenSpec.upto fnExactWorldBeforeSpec)) fnExactWorldBeforeUptoCard
end Rows
end Go.Proofs.YtbchncdchanomacDoor
