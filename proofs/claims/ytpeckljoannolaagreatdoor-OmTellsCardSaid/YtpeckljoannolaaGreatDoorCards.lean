/-
  DERIVED. GIVEN WITH THE SEED: THE CARDS: each row of YtpeckljoannolaaGreatDoorRows.lean that lists a variable, with what it lists TIED to the program's text (the seventh form; the later family's looks); each row that meets fmt, with fmt's text TOLD by the authors' own Lean function (tested against real Go, not proved from fmt's source: count such statements apart). THE CARD IS WHAT COUNTS. Prove the row's statement (the work); the ties are given (YtpeckljoannolaaGreatDoorTie.lean); close each card by the builder's one call (the guide's Derived/Test/ToyasCard.lean, 'card_holds'). Laid BY PROGRAM, IN A SANDBOX (cutbox-door.mjs). By AI agents, Wed Nov 11 2026. No macro, syntax, notation, axiom, sorry.
-/
import Derived.Test.YtpeckljoannolaaGreatDoorRows
import GoSem.ClaimSeven
namespace Go.Proofs.YtpeckljoannolaaGreatDoor
namespace Rows

/-- THE TIED CARD OF 'shelfmarklaw15.OmNames'. -/
def omNamesCard : Claim7 := { stood := { row := omNamesRow, standIns := [], harness := (true, "9b30f2bb620de7b29cfd9f565df9fc18f36d3e864df609c00b1c4ff7ff78a616"), looks := false }, kinds := [], alts := [], laidByText := true, laidKinds := [.data], laidTests := true, laidLooks := .later }
def OmNamesCardSaid : Prop := Claim7.holds Tryz.pinned (.plain (OpenSpec.ofChange omNamesSpec)) omNamesCard

/-- THE TIED CARD OF 'shelfmarklaw15.OmTells'. -/
def omTellsCard : Claim7 := { stood := { row := omTellsRow, standIns := [], harness := (true, "9b30f2bb620de7b29cfd9f565df9fc18f36d3e864df609c00b1c4ff7ff78a616"), looks := false }, kinds := [], alts := [], laidByText := true, laidKinds := [.data], laidTests := true, laidLooks := .later }
def OmTellsCardSaid : Prop := Claim7.holds Tryz.pinned (.plain (OpenSpec.ofChange omTellsSpec)) omTellsCard

/-- THE TIED CARD OF 'shelfmarklaw15.OmTurns'. -/
def omTurnsCard : Claim7 := { stood := { row := omTurnsRow, standIns := [], harness := (true, "9b30f2bb620de7b29cfd9f565df9fc18f36d3e864df609c00b1c4ff7ff78a616"), looks := false }, kinds := [], alts := [], laidByText := true, laidKinds := [.data], laidTests := true, laidLooks := .later }
def OmTurnsCardSaid : Prop := Claim7.holds Tryz.pinned (.plain (OpenSpec.ofChange omTurnsSpec)) omTurnsCard

/-- THE TIED CARD OF 'shelfmarklaw15.OmOrder'. -/
def omOrderCard : Claim7 := { stood := { row := omOrderRow, standIns := [], harness := (true, "9b30f2bb620de7b29cfd9f565df9fc18f36d3e864df609c00b1c4ff7ff78a616"), looks := false }, kinds := [], alts := [], laidByText := true, laidKinds := [.data], laidTests := true, laidLooks := .later }
def OmOrderCardSaid : Prop := Claim7.holds Tryz.pinned (.plain (OpenSpec.ofChange omOrderSpec)) omOrderCard

/-- THE TIED CARD OF 'shelfmarklaw15.OmCompares'. -/
def omComparesCard : Claim7 := { stood := { row := omComparesRow, standIns := [], harness := (true, "9b30f2bb620de7b29cfd9f565df9fc18f36d3e864df609c00b1c4ff7ff78a616"), looks := false }, kinds := [], alts := [], laidByText := true, laidKinds := [.data], laidTests := true, laidLooks := .later }
def OmComparesCardSaid : Prop := Claim7.holds Tryz.pinned (.plain (OpenSpec.ofChange omComparesSpec)) omComparesCard

/-- THE TIED CARD OF 'shelfmarklaw15.OmMoves'. -/
def omMovesCard : Claim7 := { stood := { row := omMovesRow, standIns := [], harness := (true, "9b30f2bb620de7b29cfd9f565df9fc18f36d3e864df609c00b1c4ff7ff78a616"), looks := false }, kinds := [], alts := [], laidByText := true, laidKinds := [.data], laidTests := true, laidLooks := .later }
def OmMovesCardSaid : Prop := Claim7.holds Tryz.pinned (.plain (OpenSpec.ofChange omMovesSpec)) omMovesCard

/-- THE SECOND FORM's CARD OF 'shelfmarklaw15.OmNames'. -/
def omNamesUptoCard : Claim7 := { stood := { row := omNamesUptoRow, standIns := [], harness := (true, "9b30f2bb620de7b29cfd9f565df9fc18f36d3e864df609c00b1c4ff7ff78a616"), looks := false }, kinds := [], alts := [], laidByText := true, laidKinds := [.data], laidTests := true, laidLooks := .later }
def OmNamesUptoCardSaid : Prop := Claim7.holds Tryz.pinned (.plain (OpenSpec.upto omNamesSpec)) omNamesUptoCard

/-- THE SECOND FORM's CARD OF 'shelfmarklaw15.OmTells'. -/
def omTellsUptoCard : Claim7 := { stood := { row := omTellsUptoRow, standIns := [], harness := (true, "9b30f2bb620de7b29cfd9f565df9fc18f36d3e864df609c00b1c4ff7ff78a616"), looks := false }, kinds := [], alts := [], laidByText := true, laidKinds := [.data], laidTests := true, laidLooks := .later }
def OmTellsUptoCardSaid : Prop := Claim7.holds Tryz.pinned (.plain (OpenSpec.upto omTellsSpec)) omTellsUptoCard

/-- THE SECOND FORM's CARD OF 'shelfmarklaw15.OmTurns'. -/
def omTurnsUptoCard : Claim7 := { stood := { row := omTurnsUptoRow, standIns := [], harness := (true, "9b30f2bb620de7b29cfd9f565df9fc18f36d3e864df609c00b1c4ff7ff78a616"), looks := false }, kinds := [], alts := [], laidByText := true, laidKinds := [.data], laidTests := true, laidLooks := .later }
def OmTurnsUptoCardSaid : Prop := Claim7.holds Tryz.pinned (.plain (OpenSpec.upto omTurnsSpec)) omTurnsUptoCard

/-- THE SECOND FORM's CARD OF 'shelfmarklaw15.OmOrder'. -/
def omOrderUptoCard : Claim7 := { stood := { row := omOrderUptoRow, standIns := [], harness := (true, "9b30f2bb620de7b29cfd9f565df9fc18f36d3e864df609c00b1c4ff7ff78a616"), looks := false }, kinds := [], alts := [], laidByText := true, laidKinds := [.data], laidTests := true, laidLooks := .later }
def OmOrderUptoCardSaid : Prop := Claim7.holds Tryz.pinned (.plain (OpenSpec.upto omOrderSpec)) omOrderUptoCard

/-- THE SECOND FORM's CARD OF 'shelfmarklaw15.OmCompares'. -/
def omComparesUptoCard : Claim7 := { stood := { row := omComparesUptoRow, standIns := [], harness := (true, "9b30f2bb620de7b29cfd9f565df9fc18f36d3e864df609c00b1c4ff7ff78a616"), looks := false }, kinds := [], alts := [], laidByText := true, laidKinds := [.data], laidTests := true, laidLooks := .later }
def OmComparesUptoCardSaid : Prop := Claim7.holds Tryz.pinned (.plain (OpenSpec.upto omComparesSpec)) omComparesUptoCard

/-- THE SECOND FORM's CARD OF 'shelfmarklaw15.OmMoves'. -/
def omMovesUptoCard : Claim7 := { stood := { row := omMovesUptoRow, standIns := [], harness := (true, "9b30f2bb620de7b29cfd9f565df9fc18f36d3e864df609c00b1c4ff7ff78a616"), looks := false }, kinds := [], alts := [], laidByText := true, laidKinds := [.data], laidTests := true, laidLooks := .later }
def OmMovesUptoCardSaid : Prop := Claim7.holds Tryz.pinned (.plain (OpenSpec.upto omMovesSpec)) omMovesUptoCard
end Rows
end Go.Proofs.YtpeckljoannolaaGreatDoor
