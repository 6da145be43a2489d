/-
  DERIVED. GIVEN WITH THE SEED: THE CARDS: each row of YtioppaofihbmpabDoorRows.lean that lists a variable, with what it lists TIED to the program's text (the seventh form; the later family's looks); each row that meets fmt, with fmt's text TOLD by the authors' own Lean function (tested against real Go, not proved from fmt's source: count such statements apart). THE CARD IS WHAT COUNTS. Prove the row's statement (the work); the ties are given (YtioppaofihbmpabDoorTie.lean); close each card by the builder's one call (the guide's Derived/Test/ToyasCard.lean, 'card_holds'). Laid BY PROGRAM, IN A SANDBOX (cutbox-door.mjs). By AI agents, Wed Nov 11 2026. No macro, syntax, notation, axiom, sorry.
-/
import Derived.Test.YtioppaofihbmpabDoorRows
import GoSem.ClaimSeven
namespace Go.Proofs.YtioppaofihbmpabDoor
namespace Rows

/-- THE TIED CARD OF 'laws.FnExactLongestLife'. -/
def fnExactLongestLifeCard : Claim7 := { stood := { row := fnExactLongestLifeRow, standIns := [], harness := (true, "04871bfd9e78f44fc448c630854302885449e32829c73474d825ea87f52df590"), looks := false }, kinds := [], alts := [], laidByText := true, laidKinds := [.data, .data, .pinned], laidTests := true, laidLooks := .later }
def FnExactLongestLifeCardSaid : Prop := Claim7.holds Tryd.pinned (.plain (OpenSpec.ofChange fnExactLongestLifeSpec)) fnExactLongestLifeCard

/-- THE TIED CARD OF 'laws.FnExactOddNodes'. -/
def fnExactOddNodesCard : Claim7 := { stood := { row := fnExactOddNodesRow, standIns := [], harness := (true, "04871bfd9e78f44fc448c630854302885449e32829c73474d825ea87f52df590"), looks := false }, kinds := [], alts := [], laidByText := true, laidKinds := [.data, .pinned], laidTests := true, laidLooks := .later }
def FnExactOddNodesCardSaid : Prop := Claim7.holds Tryd.pinned (.plain (OpenSpec.ofChange fnExactOddNodesSpec)) fnExactOddNodesCard

/-- THE TIED CARD OF 'laws.FnExactPiecesLeft'. -/
def fnExactPiecesLeftCard : Claim7 := { stood := { row := fnExactPiecesLeftRow, standIns := [], harness := (true, "04871bfd9e78f44fc448c630854302885449e32829c73474d825ea87f52df590"), looks := false }, kinds := [], alts := [], laidByText := true, laidKinds := [.data, .pinned], laidTests := true, laidLooks := .later }
def FnExactPiecesLeftCardSaid : Prop := Claim7.holds Tryd.pinned (.plain (OpenSpec.ofChange fnExactPiecesLeftSpec)) fnExactPiecesLeftCard

/-- THE TIED CARD OF 'laws.FnExactShiftWorm'. -/
def fnExactShiftWormCard : Claim7 := { stood := { row := fnExactShiftWormRow, standIns := [], harness := (true, "04871bfd9e78f44fc448c630854302885449e32829c73474d825ea87f52df590"), looks := false }, kinds := [], alts := [], laidByText := true, laidKinds := [.data, .pinned], laidTests := true, laidLooks := .later }
def FnExactShiftWormCardSaid : Prop := Claim7.holds Tryd.pinned (.plain (OpenSpec.ofChange fnExactShiftWormSpec)) fnExactShiftWormCard

/-- THE TIED CARD OF 'laws.FnExactWormText'. -/
def fnExactWormTextCard : Claim7 := { stood := { row := fnExactWormTextRow, standIns := [], harness := (true, "04871bfd9e78f44fc448c630854302885449e32829c73474d825ea87f52df590"), looks := false }, kinds := [], alts := [], laidByText := true, laidKinds := [.data, .data, .data, .data, .pinned], laidTests := true, laidLooks := .later }
def FnExactWormTextCardSaid : Prop := Claim7.holds Tryd.pinned (.plain (OpenSpec.ofChange fnExactWormTextSpec)) fnExactWormTextCard

/-- THE TIED CARD OF 'laws.FnExactParseWorm'. -/
def fnExactParseWormCard : Claim7 := { stood := { row := fnExactParseWormRow, standIns := [], harness := (true, "04871bfd9e78f44fc448c630854302885449e32829c73474d825ea87f52df590"), looks := false }, kinds := [], alts := [], laidByText := true, laidKinds := [.data, .data, .data, .data, .pinned], laidTests := true, laidLooks := .later }
def FnExactParseWormCardSaid : Prop := Claim7.holds Tryd.pinned (.plain (OpenSpec.ofChange fnExactParseWormSpec)) fnExactParseWormCard

/-- THE SECOND FORM's CARD OF 'laws.FnExactLongestLife'. -/
def fnExactLongestLifeUptoCard : Claim7 := { stood := { row := fnExactLongestLifeUptoRow, standIns := [], harness := (true, "04871bfd9e78f44fc448c630854302885449e32829c73474d825ea87f52df590"), looks := false }, kinds := [], alts := [], laidByText := true, laidKinds := [.data, .data, .pinned], laidTests := true, laidLooks := .later }
def FnExactLongestLifeUptoCardSaid : Prop := Claim7.holds Tryd.pinned (.plain (OpenSpec.upto fnExactLongestLifeSpec)) fnExactLongestLifeUptoCard

/-- THE SECOND FORM's CARD OF 'laws.FnExactOddNodes'. -/
def fnExactOddNodesUptoCard : Claim7 := { stood := { row := fnExactOddNodesUptoRow, standIns := [], harness := (true, "04871bfd9e78f44fc448c630854302885449e32829c73474d825ea87f52df590"), looks := false }, kinds := [], alts := [], laidByText := true, laidKinds := [.data, .pinned], laidTests := true, laidLooks := .later }
def FnExactOddNodesUptoCardSaid : Prop := Claim7.holds Tryd.pinned (.plain (OpenSpec.upto fnExactOddNodesSpec)) fnExactOddNodesUptoCard

/-- THE SECOND FORM's CARD OF 'laws.FnExactPiecesLeft'. -/
def fnExactPiecesLeftUptoCard : Claim7 := { stood := { row := fnExactPiecesLeftUptoRow, standIns := [], harness := (true, "04871bfd9e78f44fc448c630854302885449e32829c73474d825ea87f52df590"), looks := false }, kinds := [], alts := [], laidByText := true, laidKinds := [.data, .pinned], laidTests := true, laidLooks := .later }
def FnExactPiecesLeftUptoCardSaid : Prop := Claim7.holds Tryd.pinned (.plain (OpenSpec.upto fnExactPiecesLeftSpec)) fnExactPiecesLeftUptoCard

/-- THE SECOND FORM's CARD OF 'laws.FnExactShiftWorm'. -/
def fnExactShiftWormUptoCard : Claim7 := { stood := { row := fnExactShiftWormUptoRow, standIns := [], harness := (true, "04871bfd9e78f44fc448c630854302885449e32829c73474d825ea87f52df590"), looks := false }, kinds := [], alts := [], laidByText := true, laidKinds := [.data, .pinned], laidTests := true, laidLooks := .later }
def FnExactShiftWormUptoCardSaid : Prop := Claim7.holds Tryd.pinned (.plain (OpenSpec.upto fnExactShiftWormSpec)) fnExactShiftWormUptoCard

/-- THE SECOND FORM's CARD OF 'laws.FnExactWormText'. -/
def fnExactWormTextUptoCard : Claim7 := { stood := { row := fnExactWormTextUptoRow, standIns := [], harness := (true, "04871bfd9e78f44fc448c630854302885449e32829c73474d825ea87f52df590"), looks := false }, kinds := [], alts := [], laidByText := true, laidKinds := [.data, .data, .data, .data, .pinned], laidTests := true, laidLooks := .later }
def FnExactWormTextUptoCardSaid : Prop := Claim7.holds Tryd.pinned (.plain (OpenSpec.upto fnExactWormTextSpec)) fnExactWormTextUptoCard

/-- THE SECOND FORM's CARD OF 'laws.FnExactParseWorm'. -/
def fnExactParseWormUptoCard : Claim7 := { stood := { row := fnExactParseWormUptoRow, standIns := [], harness := (true, "04871bfd9e78f44fc448c630854302885449e32829c73474d825ea87f52df590"), looks := false }, kinds := [], alts := [], laidByText := true, laidKinds := [.data, .data, .data, .data, .pinned], laidTests := true, laidLooks := .later }
def FnExactParseWormUptoCardSaid : Prop := Claim7.holds Tryd.pinned (.plain (OpenSpec.upto fnExactParseWormSpec)) fnExactParseWormUptoCard
end Rows
end Go.Proofs.YtioppaofihbmpabDoor
