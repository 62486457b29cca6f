/-
  DERIVED. GIVEN WITH THE SEED: THE CARDS: each row of YtgbgeedcfccclaaDoorRows.lean that lists a variable, with what it lists TIED to the program's text (the seventh form; the later family's looks); each row that meets fmt, with fmt's text TOLD by the authors' own Lean function (tested against real Go, not proved from fmt's source: count such statements apart). THE CARD IS WHAT COUNTS. Prove the row's statement (the work); the ties are given (YtgbgeedcfccclaaDoorTie.lean); close each card by the builder's one call (the guide's Derived/Test/ToyasCard.lean, 'card_holds'). Laid BY PROGRAM, IN A SANDBOX (cutbox-door.mjs). By AI agents, Wed Nov 11 2026. No macro, syntax, notation, axiom, sorry.
-/
import Derived.Test.YtgbgeedcfccclaaDoorRows
import GoSem.ClaimSeven
namespace Go.Proofs.YtgbgeedcfccclaaDoor
namespace Rows

/-- THE TIED CARD OF 'shelfmarklaw02.OccNames'. -/
def occNamesCard : Claim7 := { stood := { row := occNamesRow, standIns := [], harness := (true, "a9a0820a6e8f60f9f42912b41ac088981abf5a6874a9b0b135d7980dee2f38b9"), looks := false }, kinds := [], alts := [], laidByText := true, laidKinds := [.data], laidTests := true, laidLooks := .later }
def OccNamesCardSaid : Prop := Claim7.holds Tryd.pinned (.plain (OpenSpec.ofChange occNamesSpec)) occNamesCard

/-- THE TIED CARD OF 'shelfmarklaw02.OccTells'. -/
def occTellsCard : Claim7 := { stood := { row := occTellsRow, standIns := [], harness := (true, "a9a0820a6e8f60f9f42912b41ac088981abf5a6874a9b0b135d7980dee2f38b9"), looks := false }, kinds := [], alts := [], laidByText := true, laidKinds := [.data], laidTests := true, laidLooks := .later }
def OccTellsCardSaid : Prop := Claim7.holds Tryd.pinned (.plain (OpenSpec.ofChange occTellsSpec)) occTellsCard

/-- THE TIED CARD OF 'shelfmarklaw02.OccTurns'. -/
def occTurnsCard : Claim7 := { stood := { row := occTurnsRow, standIns := [], harness := (true, "a9a0820a6e8f60f9f42912b41ac088981abf5a6874a9b0b135d7980dee2f38b9"), looks := false }, kinds := [], alts := [], laidByText := true, laidKinds := [.data], laidTests := true, laidLooks := .later }
def OccTurnsCardSaid : Prop := Claim7.holds Tryd.pinned (.plain (OpenSpec.ofChange occTurnsSpec)) occTurnsCard

/-- THE TIED CARD OF 'shelfmarklaw02.OccParts'. -/
def occPartsCard : Claim7 := { stood := { row := occPartsRow, standIns := [], harness := (true, "a9a0820a6e8f60f9f42912b41ac088981abf5a6874a9b0b135d7980dee2f38b9"), looks := false }, kinds := [], alts := [], laidByText := true, laidKinds := [.data], laidTests := true, laidLooks := .later }
def OccPartsCardSaid : Prop := Claim7.holds Tryd.pinned (.plain (OpenSpec.ofChange occPartsSpec)) occPartsCard

/-- THE TIED CARD OF 'shelfmarklaw02.OccThere'. -/
def occThereCard : Claim7 := { stood := { row := occThereRow, standIns := [], harness := (true, "a9a0820a6e8f60f9f42912b41ac088981abf5a6874a9b0b135d7980dee2f38b9"), looks := false }, kinds := [], alts := [], laidByText := true, laidKinds := [.data], laidTests := true, laidLooks := .later }
def OccThereCardSaid : Prop := Claim7.holds Tryd.pinned (.plain (OpenSpec.ofChange occThereSpec)) occThereCard

/-- THE TIED CARD OF 'shelfmarklaw02.OccTurned'. -/
def occTurnedCard : Claim7 := { stood := { row := occTurnedRow, standIns := [], harness := (true, "a9a0820a6e8f60f9f42912b41ac088981abf5a6874a9b0b135d7980dee2f38b9"), looks := false }, kinds := [], alts := [], laidByText := true, laidKinds := [.data], laidTests := true, laidLooks := .later }
def OccTurnedCardSaid : Prop := Claim7.holds Tryd.pinned (.plain (OpenSpec.ofChange occTurnedSpec)) occTurnedCard

/-- THE SECOND FORM's CARD OF 'shelfmarklaw02.OccNames'. -/
def occNamesUptoCard : Claim7 := { stood := { row := occNamesUptoRow, standIns := [], harness := (true, "a9a0820a6e8f60f9f42912b41ac088981abf5a6874a9b0b135d7980dee2f38b9"), looks := false }, kinds := [], alts := [], laidByText := true, laidKinds := [.data], laidTests := true, laidLooks := .later }
def OccNamesUptoCardSaid : Prop := Claim7.holds Tryd.pinned (.plain (OpenSpec.upto occNamesSpec)) occNamesUptoCard

/-- THE SECOND FORM's CARD OF 'shelfmarklaw02.OccTells'. -/
def occTellsUptoCard : Claim7 := { stood := { row := occTellsUptoRow, standIns := [], harness := (true, "a9a0820a6e8f60f9f42912b41ac088981abf5a6874a9b0b135d7980dee2f38b9"), looks := false }, kinds := [], alts := [], laidByText := true, laidKinds := [.data], laidTests := true, laidLooks := .later }
def OccTellsUptoCardSaid : Prop := Claim7.holds Tryd.pinned (.plain (OpenSpec.upto occTellsSpec)) occTellsUptoCard

/-- THE SECOND FORM's CARD OF 'shelfmarklaw02.OccTurns'. -/
def occTurnsUptoCard : Claim7 := { stood := { row := occTurnsUptoRow, standIns := [], harness := (true, "a9a0820a6e8f60f9f42912b41ac088981abf5a6874a9b0b135d7980dee2f38b9"), looks := false }, kinds := [], alts := [], laidByText := true, laidKinds := [.data], laidTests := true, laidLooks := .later }
def OccTurnsUptoCardSaid : Prop := Claim7.holds Tryd.pinned (.plain (OpenSpec.upto occTurnsSpec)) occTurnsUptoCard

/-- THE SECOND FORM's CARD OF 'shelfmarklaw02.OccParts'. -/
def occPartsUptoCard : Claim7 := { stood := { row := occPartsUptoRow, standIns := [], harness := (true, "a9a0820a6e8f60f9f42912b41ac088981abf5a6874a9b0b135d7980dee2f38b9"), looks := false }, kinds := [], alts := [], laidByText := true, laidKinds := [.data], laidTests := true, laidLooks := .later }
def OccPartsUptoCardSaid : Prop := Claim7.holds Tryd.pinned (.plain (OpenSpec.upto occPartsSpec)) occPartsUptoCard

/-- THE SECOND FORM's CARD OF 'shelfmarklaw02.OccThere'. -/
def occThereUptoCard : Claim7 := { stood := { row := occThereUptoRow, standIns := [], harness := (true, "a9a0820a6e8f60f9f42912b41ac088981abf5a6874a9b0b135d7980dee2f38b9"), looks := false }, kinds := [], alts := [], laidByText := true, laidKinds := [.data], laidTests := true, laidLooks := .later }
def OccThereUptoCardSaid : Prop := Claim7.holds Tryd.pinned (.plain (OpenSpec.upto occThereSpec)) occThereUptoCard

/-- THE SECOND FORM's CARD OF 'shelfmarklaw02.OccTurned'. -/
def occTurnedUptoCard : Claim7 := { stood := { row := occTurnedUptoRow, standIns := [], harness := (true, "a9a0820a6e8f60f9f42912b41ac088981abf5a6874a9b0b135d7980dee2f38b9"), looks := false }, kinds := [], alts := [], laidByText := true, laidKinds := [.data], laidTests := true, laidLooks := .later }
def OccTurnedUptoCardSaid : Prop := Claim7.holds Tryd.pinned (.plain (OpenSpec.upto occTurnedSpec)) occTurnedUptoCard
end Rows
end Go.Proofs.YtgbgeedcfccclaaDoor
