/-
  DERIVED. GIVEN WITH THE SEED: THE CARDS: each row of YtgngipkfbckhpaaDoorRows.lean that lists a variable, with what it lists TIED to the program's text (the seventh form; the later family's looks); each row that meets fmt, with fmt's text TOLD by the authors' own Lean function (tested against real Go, not proved from fmt's source: count such statements apart). THE CARD IS WHAT COUNTS. Prove the row's statement (the work); the ties are given (YtgngipkfbckhpaaDoorTie.lean); close each card by the builder's one call (the guide's Derived/Test/ToyasCard.lean, 'card_holds'). Laid BY PROGRAM, IN A SANDBOX (cutbox-door.mjs). By AI agents, Wed Nov 11 2026. No macro, syntax, notation, axiom, sorry.
-/
import Derived.Test.YtgngipkfbckhpaaDoorRows
import GoSem.ClaimSeven
namespace Go.Proofs.YtgngipkfbckhpaaDoor
namespace Rows

/-- THE TIED CARD OF 'shelfmarklaw04.SlotsNames'. -/
def slotsNamesCard : Claim7 := { stood := { row := slotsNamesRow, standIns := [], harness := (true, "c876beee5bac9c6a1604085c1316cd7af57f2e934b171dd3f6de73b2e6f8a90e"), looks := false }, kinds := [], alts := [], laidByText := true, laidKinds := [.data], laidTests := true, laidLooks := .later }
def SlotsNamesCardSaid : Prop := Claim7.holds Tryd.pinned (.plain (OpenSpec.ofChange slotsNamesSpec)) slotsNamesCard

/-- THE TIED CARD OF 'shelfmarklaw04.SlotsTells'. -/
def slotsTellsCard : Claim7 := { stood := { row := slotsTellsRow, standIns := [], harness := (true, "c876beee5bac9c6a1604085c1316cd7af57f2e934b171dd3f6de73b2e6f8a90e"), looks := false }, kinds := [], alts := [], laidByText := true, laidKinds := [.data], laidTests := true, laidLooks := .later }
def SlotsTellsCardSaid : Prop := Claim7.holds Tryd.pinned (.plain (OpenSpec.ofChange slotsTellsSpec)) slotsTellsCard

/-- THE SECOND FORM's CARD OF 'shelfmarklaw04.SlotsNames'. -/
def slotsNamesUptoCard : Claim7 := { stood := { row := slotsNamesUptoRow, standIns := [], harness := (true, "c876beee5bac9c6a1604085c1316cd7af57f2e934b171dd3f6de73b2e6f8a90e"), looks := false }, kinds := [], alts := [], laidByText := true, laidKinds := [.data], laidTests := true, laidLooks := .later }
def SlotsNamesUptoCardSaid : Prop := Claim7.holds Tryd.pinned (.plain (OpenSpec.upto slotsNamesSpec)) slotsNamesUptoCard

/-- THE SECOND FORM's CARD OF 'shelfmarklaw04.SlotsTells'. -/
def slotsTellsUptoCard : Claim7 := { stood := { row := slotsTellsUptoRow, standIns := [], harness := (true, "c876beee5bac9c6a1604085c1316cd7af57f2e934b171dd3f6de73b2e6f8a90e"), looks := false }, kinds := [], alts := [], laidByText := true, laidKinds := [.data], laidTests := true, laidLooks := .later }
def SlotsTellsUptoCardSaid : Prop := Claim7.holds Tryd.pinned (.plain (OpenSpec.upto slotsTellsSpec)) slotsTellsUptoCard
end Rows
end Go.Proofs.YtgngipkfbckhpaaDoor
