/-
  DERIVED. GIVEN WITH THE SEED: THE CARDS: each row of YtifffaigmfahdaaDoorRows.lean that lists a variable, with what it lists TIED to the program's text (the seventh form; the later family's looks); each row that meets fmt, with fmt's text TOLD by the authors' own Lean function (tested against real Go, not proved from fmt's source: count such statements apart). THE CARD IS WHAT COUNTS. Prove the row's statement (the work); the ties are given (YtifffaigmfahdaaDoorTie.lean); close each card by the builder's one call (the guide's Derived/Test/ToyasCard.lean, 'card_holds'). Laid BY PROGRAM, IN A SANDBOX (cutbox-door.mjs). By AI agents, Wed Nov 11 2026. No macro, syntax, notation, axiom, sorry.
-/
import Derived.Test.YtifffaigmfahdaaDoorRows
import GoSem.ClaimSeven
namespace Go.Proofs.YtifffaigmfahdaaDoor
namespace Rows

/-- THE TIED CARD OF 'shelfmarklaw04.SlotsNames'. -/
def slotsNamesCard : Claim7 := { stood := { row := slotsNamesRow, standIns := [], harness := (true, "5c0992eedfe91f22a11e7caff70cc8b3913e4fde43f52e97bb669ad821e4ef49"), looks := false }, kinds := [], alts := [], laidByText := true, laidKinds := [.data], laidTests := true, laidLooks := .later }
def SlotsNamesCardSaid : Prop := Claim7.holds Tryd.pinned (.plain (OpenSpec.ofChange slotsNamesSpec)) slotsNamesCard

/-- THE TIED CARD OF 'shelfmarklaw04.SlotsTells'. -/
def slotsTellsCard : Claim7 := { stood := { row := slotsTellsRow, standIns := [], harness := (true, "5c0992eedfe91f22a11e7caff70cc8b3913e4fde43f52e97bb669ad821e4ef49"), looks := false }, kinds := [], alts := [], laidByText := true, laidKinds := [.data], laidTests := true, laidLooks := .later }
def SlotsTellsCardSaid : Prop := Claim7.holds Tryd.pinned (.plain (OpenSpec.ofChange slotsTellsSpec)) slotsTellsCard

/-- THE TIED CARD OF 'shelfmarklaw04.SlotsTurns'. -/
def slotsTurnsCard : Claim7 := { stood := { row := slotsTurnsRow, standIns := [], harness := (true, "5c0992eedfe91f22a11e7caff70cc8b3913e4fde43f52e97bb669ad821e4ef49"), looks := false }, kinds := [], alts := [], laidByText := true, laidKinds := [.data], laidTests := true, laidLooks := .later }
def SlotsTurnsCardSaid : Prop := Claim7.holds Tryd.pinned (.plain (OpenSpec.ofChange slotsTurnsSpec)) slotsTurnsCard

/-- THE TIED CARD OF 'shelfmarklaw04.SlotsFills'. -/
def slotsFillsCard : Claim7 := { stood := { row := slotsFillsRow, standIns := [], harness := (true, "5c0992eedfe91f22a11e7caff70cc8b3913e4fde43f52e97bb669ad821e4ef49"), looks := false }, kinds := [], alts := [], laidByText := true, laidKinds := [.data], laidTests := true, laidLooks := .later }
def SlotsFillsCardSaid : Prop := Claim7.holds Tryd.pinned (.plain (OpenSpec.ofChange slotsFillsSpec)) slotsFillsCard

/-- THE TIED CARD OF 'shelfmarklaw04.SlotsThere'. -/
def slotsThereCard : Claim7 := { stood := { row := slotsThereRow, standIns := [], harness := (true, "5c0992eedfe91f22a11e7caff70cc8b3913e4fde43f52e97bb669ad821e4ef49"), looks := false }, kinds := [], alts := [], laidByText := true, laidKinds := [.data], laidTests := true, laidLooks := .later }
def SlotsThereCardSaid : Prop := Claim7.holds Tryd.pinned (.plain (OpenSpec.ofChange slotsThereSpec)) slotsThereCard

/-- THE TIED CARD OF 'shelfmarklaw04.SlotsParts'. -/
def slotsPartsCard : Claim7 := { stood := { row := slotsPartsRow, standIns := [], harness := (true, "5c0992eedfe91f22a11e7caff70cc8b3913e4fde43f52e97bb669ad821e4ef49"), looks := false }, kinds := [], alts := [], laidByText := true, laidKinds := [.data], laidTests := true, laidLooks := .later }
def SlotsPartsCardSaid : Prop := Claim7.holds Tryd.pinned (.plain (OpenSpec.ofChange slotsPartsSpec)) slotsPartsCard

/-- THE TIED CARD OF 'shelfmarklaw04.SlotsWhole'. -/
def slotsWholeCard : Claim7 := { stood := { row := slotsWholeRow, standIns := [], harness := (true, "5c0992eedfe91f22a11e7caff70cc8b3913e4fde43f52e97bb669ad821e4ef49"), looks := false }, kinds := [], alts := [], laidByText := true, laidKinds := [.data], laidTests := true, laidLooks := .later }
def SlotsWholeCardSaid : Prop := Claim7.holds Tryd.pinned (.plain (OpenSpec.ofChange slotsWholeSpec)) slotsWholeCard

/-- THE SECOND FORM's CARD OF 'shelfmarklaw04.SlotsNames'. -/
def slotsNamesUptoCard : Claim7 := { stood := { row := slotsNamesUptoRow, standIns := [], harness := (true, "5c0992eedfe91f22a11e7caff70cc8b3913e4fde43f52e97bb669ad821e4ef49"), looks := false }, kinds := [], alts := [], laidByText := true, laidKinds := [.data], laidTests := true, laidLooks := .later }
def SlotsNamesUptoCardSaid : Prop := Claim7.holds Tryd.pinned (.plain (OpenSpec.upto slotsNamesSpec)) slotsNamesUptoCard

/-- THE SECOND FORM's CARD OF 'shelfmarklaw04.SlotsTells'. -/
def slotsTellsUptoCard : Claim7 := { stood := { row := slotsTellsUptoRow, standIns := [], harness := (true, "5c0992eedfe91f22a11e7caff70cc8b3913e4fde43f52e97bb669ad821e4ef49"), looks := false }, kinds := [], alts := [], laidByText := true, laidKinds := [.data], laidTests := true, laidLooks := .later }
def SlotsTellsUptoCardSaid : Prop := Claim7.holds Tryd.pinned (.plain (OpenSpec.upto slotsTellsSpec)) slotsTellsUptoCard

/-- THE SECOND FORM's CARD OF 'shelfmarklaw04.SlotsTurns'. -/
def slotsTurnsUptoCard : Claim7 := { stood := { row := slotsTurnsUptoRow, standIns := [], harness := (true, "5c0992eedfe91f22a11e7caff70cc8b3913e4fde43f52e97bb669ad821e4ef49"), looks := false }, kinds := [], alts := [], laidByText := true, laidKinds := [.data], laidTests := true, laidLooks := .later }
def SlotsTurnsUptoCardSaid : Prop := Claim7.holds Tryd.pinned (.plain (OpenSpec.upto slotsTurnsSpec)) slotsTurnsUptoCard

/-- THE SECOND FORM's CARD OF 'shelfmarklaw04.SlotsFills'. -/
def slotsFillsUptoCard : Claim7 := { stood := { row := slotsFillsUptoRow, standIns := [], harness := (true, "5c0992eedfe91f22a11e7caff70cc8b3913e4fde43f52e97bb669ad821e4ef49"), looks := false }, kinds := [], alts := [], laidByText := true, laidKinds := [.data], laidTests := true, laidLooks := .later }
def SlotsFillsUptoCardSaid : Prop := Claim7.holds Tryd.pinned (.plain (OpenSpec.upto slotsFillsSpec)) slotsFillsUptoCard

/-- THE SECOND FORM's CARD OF 'shelfmarklaw04.SlotsThere'. -/
def slotsThereUptoCard : Claim7 := { stood := { row := slotsThereUptoRow, standIns := [], harness := (true, "5c0992eedfe91f22a11e7caff70cc8b3913e4fde43f52e97bb669ad821e4ef49"), looks := false }, kinds := [], alts := [], laidByText := true, laidKinds := [.data], laidTests := true, laidLooks := .later }
def SlotsThereUptoCardSaid : Prop := Claim7.holds Tryd.pinned (.plain (OpenSpec.upto slotsThereSpec)) slotsThereUptoCard

/-- THE SECOND FORM's CARD OF 'shelfmarklaw04.SlotsParts'. -/
def slotsPartsUptoCard : Claim7 := { stood := { row := slotsPartsUptoRow, standIns := [], harness := (true, "5c0992eedfe91f22a11e7caff70cc8b3913e4fde43f52e97bb669ad821e4ef49"), looks := false }, kinds := [], alts := [], laidByText := true, laidKinds := [.data], laidTests := true, laidLooks := .later }
def SlotsPartsUptoCardSaid : Prop := Claim7.holds Tryd.pinned (.plain (OpenSpec.upto slotsPartsSpec)) slotsPartsUptoCard

/-- THE SECOND FORM's CARD OF 'shelfmarklaw04.SlotsWhole'. -/
def slotsWholeUptoCard : Claim7 := { stood := { row := slotsWholeUptoRow, standIns := [], harness := (true, "5c0992eedfe91f22a11e7caff70cc8b3913e4fde43f52e97bb669ad821e4ef49"), looks := false }, kinds := [], alts := [], laidByText := true, laidKinds := [.data], laidTests := true, laidLooks := .later }
def SlotsWholeUptoCardSaid : Prop := Claim7.holds Tryd.pinned (.plain (OpenSpec.upto slotsWholeSpec)) slotsWholeUptoCard
end Rows
end Go.Proofs.YtifffaigmfahdaaDoor
