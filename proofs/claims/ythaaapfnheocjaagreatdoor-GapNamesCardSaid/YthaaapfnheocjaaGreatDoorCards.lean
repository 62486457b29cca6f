/-
  DERIVED. GIVEN WITH THE SEED: THE CARDS: each row of YthaaapfnheocjaaGreatDoorRows.lean that lists a variable, with what it lists TIED to the program's text (the seventh form; the later family's looks); each row that meets fmt, with fmt's text TOLD by the authors' own Lean function (tested against real Go, not proved from fmt's source: count such statements apart). THE CARD IS WHAT COUNTS. Prove the row's statement (the work); the ties are given (YthaaapfnheocjaaGreatDoorTie.lean); close each card by the builder's one call (the guide's Derived/Test/ToyasCard.lean, 'card_holds'). Laid BY PROGRAM, IN A SANDBOX (cutbox-door.mjs). By AI agents, Wed Nov 11 2026. No macro, syntax, notation, axiom, sorry.
-/
import Derived.Test.YthaaapfnheocjaaGreatDoorRows
import GoSem.ClaimSeven
namespace Go.Proofs.YthaaapfnheocjaaGreatDoor
namespace Rows

/-- THE TIED CARD OF 'shelfmarklaw09.GapNames'. -/
def gapNamesCard : Claim7 := { stood := { row := gapNamesRow, standIns := [], harness := (true, "3245926284909b0a31f59f5949275d5826b242387b8d6315899f749cb40efff8"), looks := false }, kinds := [], alts := [], laidByText := true, laidKinds := [.data], laidTests := true, laidLooks := .later }
def GapNamesCardSaid : Prop := Claim7.holds Tryz.pinned (.plain (OpenSpec.ofChange gapNamesSpec)) gapNamesCard

/-- THE TIED CARD OF 'shelfmarklaw09.GapTells'. -/
def gapTellsCard : Claim7 := { stood := { row := gapTellsRow, standIns := [], harness := (true, "3245926284909b0a31f59f5949275d5826b242387b8d6315899f749cb40efff8"), looks := false }, kinds := [], alts := [], laidByText := true, laidKinds := [.data], laidTests := true, laidLooks := .later }
def GapTellsCardSaid : Prop := Claim7.holds Tryz.pinned (.plain (OpenSpec.ofChange gapTellsSpec)) gapTellsCard

/-- THE TIED CARD OF 'shelfmarklaw09.GapCost'. -/
def gapCostCard : Claim7 := { stood := { row := gapCostRow, standIns := [], harness := (true, "3245926284909b0a31f59f5949275d5826b242387b8d6315899f749cb40efff8"), looks := false }, kinds := [], alts := [], laidByText := true, laidKinds := [.data], laidTests := true, laidLooks := .later }
def GapCostCardSaid : Prop := Claim7.holds Tryz.pinned (.plain (OpenSpec.ofChange gapCostSpec)) gapCostCard

/-- THE SECOND FORM's CARD OF 'shelfmarklaw09.GapNames'. -/
def gapNamesUptoCard : Claim7 := { stood := { row := gapNamesUptoRow, standIns := [], harness := (true, "3245926284909b0a31f59f5949275d5826b242387b8d6315899f749cb40efff8"), looks := false }, kinds := [], alts := [], laidByText := true, laidKinds := [.data], laidTests := true, laidLooks := .later }
def GapNamesUptoCardSaid : Prop := Claim7.holds Tryz.pinned (.plain (OpenSpec.upto gapNamesSpec)) gapNamesUptoCard

/-- THE SECOND FORM's CARD OF 'shelfmarklaw09.GapTells'. -/
def gapTellsUptoCard : Claim7 := { stood := { row := gapTellsUptoRow, standIns := [], harness := (true, "3245926284909b0a31f59f5949275d5826b242387b8d6315899f749cb40efff8"), looks := false }, kinds := [], alts := [], laidByText := true, laidKinds := [.data], laidTests := true, laidLooks := .later }
def GapTellsUptoCardSaid : Prop := Claim7.holds Tryz.pinned (.plain (OpenSpec.upto gapTellsSpec)) gapTellsUptoCard

/-- THE SECOND FORM's CARD OF 'shelfmarklaw09.GapCost'. -/
def gapCostUptoCard : Claim7 := { stood := { row := gapCostUptoRow, standIns := [], harness := (true, "3245926284909b0a31f59f5949275d5826b242387b8d6315899f749cb40efff8"), looks := false }, kinds := [], alts := [], laidByText := true, laidKinds := [.data], laidTests := true, laidLooks := .later }
def GapCostUptoCardSaid : Prop := Claim7.holds Tryz.pinned (.plain (OpenSpec.upto gapCostSpec)) gapCostUptoCard
end Rows
end Go.Proofs.YthaaapfnheocjaaGreatDoor
