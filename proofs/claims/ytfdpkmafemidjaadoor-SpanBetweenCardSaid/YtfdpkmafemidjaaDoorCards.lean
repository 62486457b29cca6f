/-
  DERIVED. GIVEN WITH THE SEED: THE CARDS: each row of YtfdpkmafemidjaaDoorRows.lean that lists a variable, with what it lists TIED to the program's text (the seventh form; the later family's looks); each row that meets fmt, with fmt's text TOLD by the authors' own Lean function (tested against real Go, not proved from fmt's source: count such statements apart). THE CARD IS WHAT COUNTS. Prove the row's statement (the work); the ties are given (YtfdpkmafemidjaaDoorTie.lean); close each card by the builder's one call (the guide's Derived/Test/ToyasCard.lean, 'card_holds'). Laid BY PROGRAM, IN A SANDBOX (cutbox-door.mjs). By AI agents, Wed Nov 11 2026. No macro, syntax, notation, axiom, sorry.
-/
import Derived.Test.YtfdpkmafemidjaaDoorRows
import GoSem.ClaimSeven
namespace Go.Proofs.YtfdpkmafemidjaaDoor
namespace Rows

/-- THE TIED CARD OF 'shelfmarklaw12.SpanNames'. -/
def spanNamesCard : Claim7 := { stood := { row := spanNamesRow, standIns := [], harness := (true, "1cf133ccc53237ac691e9f016db09119e8d2bc6cf2d7ae7a865aea990886d73d"), looks := false }, kinds := [], alts := [], laidByText := true, laidKinds := [.data], laidTests := true, laidLooks := .later }
def SpanNamesCardSaid : Prop := Claim7.holds Tryd.pinned (.plain (OpenSpec.ofChange spanNamesSpec)) spanNamesCard

/-- THE TIED CARD OF 'shelfmarklaw12.SpanTells'. -/
def spanTellsCard : Claim7 := { stood := { row := spanTellsRow, standIns := [], harness := (true, "1cf133ccc53237ac691e9f016db09119e8d2bc6cf2d7ae7a865aea990886d73d"), looks := false }, kinds := [], alts := [], laidByText := true, laidKinds := [.data], laidTests := true, laidLooks := .later }
def SpanTellsCardSaid : Prop := Claim7.holds Tryd.pinned (.plain (OpenSpec.ofChange spanTellsSpec)) spanTellsCard

/-- THE TIED CARD OF 'shelfmarklaw12.SpanScans'. -/
def spanScansCard : Claim7 := { stood := { row := spanScansRow, standIns := [], harness := (true, "1cf133ccc53237ac691e9f016db09119e8d2bc6cf2d7ae7a865aea990886d73d"), looks := false }, kinds := [], alts := [], laidByText := true, laidKinds := [.data], laidTests := true, laidLooks := .later }
def SpanScansCardSaid : Prop := Claim7.holds Tryd.pinned (.plain (OpenSpec.ofChange spanScansSpec)) spanScansCard

/-- THE TIED CARD OF 'shelfmarklaw12.SpanNumbers'. -/
def spanNumbersCard : Claim7 := { stood := { row := spanNumbersRow, standIns := [], harness := (true, "1cf133ccc53237ac691e9f016db09119e8d2bc6cf2d7ae7a865aea990886d73d"), looks := false }, kinds := [], alts := [], laidByText := true, laidKinds := [.data], laidTests := true, laidLooks := .later }
def SpanNumbersCardSaid : Prop := Claim7.holds Tryd.pinned (.plain (OpenSpec.ofChange spanNumbersSpec)) spanNumbersCard

/-- THE TIED CARD OF 'shelfmarklaw12.SpanBetween'. -/
def spanBetweenCard : Claim7 := { stood := { row := spanBetweenRow, standIns := [], harness := (true, "1cf133ccc53237ac691e9f016db09119e8d2bc6cf2d7ae7a865aea990886d73d"), looks := false }, kinds := [], alts := [], laidByText := true, laidKinds := [.data], laidTests := true, laidLooks := .later }
def SpanBetweenCardSaid : Prop := Claim7.holds Tryd.pinned (.plain (OpenSpec.ofChange spanBetweenSpec)) spanBetweenCard

/-- THE TIED CARD OF 'shelfmarklaw12.SpanHalves'. -/
def spanHalvesCard : Claim7 := { stood := { row := spanHalvesRow, standIns := [], harness := (true, "1cf133ccc53237ac691e9f016db09119e8d2bc6cf2d7ae7a865aea990886d73d"), looks := false }, kinds := [], alts := [], laidByText := true, laidKinds := [.data], laidTests := true, laidLooks := .later }
def SpanHalvesCardSaid : Prop := Claim7.holds Tryd.pinned (.plain (OpenSpec.ofChange spanHalvesSpec)) spanHalvesCard

/-- THE SECOND FORM's CARD OF 'shelfmarklaw12.SpanNames'. -/
def spanNamesUptoCard : Claim7 := { stood := { row := spanNamesUptoRow, standIns := [], harness := (true, "1cf133ccc53237ac691e9f016db09119e8d2bc6cf2d7ae7a865aea990886d73d"), looks := false }, kinds := [], alts := [], laidByText := true, laidKinds := [.data], laidTests := true, laidLooks := .later }
def SpanNamesUptoCardSaid : Prop := Claim7.holds Tryd.pinned (.plain (OpenSpec.upto spanNamesSpec)) spanNamesUptoCard

/-- THE SECOND FORM's CARD OF 'shelfmarklaw12.SpanTells'. -/
def spanTellsUptoCard : Claim7 := { stood := { row := spanTellsUptoRow, standIns := [], harness := (true, "1cf133ccc53237ac691e9f016db09119e8d2bc6cf2d7ae7a865aea990886d73d"), looks := false }, kinds := [], alts := [], laidByText := true, laidKinds := [.data], laidTests := true, laidLooks := .later }
def SpanTellsUptoCardSaid : Prop := Claim7.holds Tryd.pinned (.plain (OpenSpec.upto spanTellsSpec)) spanTellsUptoCard

/-- THE SECOND FORM's CARD OF 'shelfmarklaw12.SpanScans'. -/
def spanScansUptoCard : Claim7 := { stood := { row := spanScansUptoRow, standIns := [], harness := (true, "1cf133ccc53237ac691e9f016db09119e8d2bc6cf2d7ae7a865aea990886d73d"), looks := false }, kinds := [], alts := [], laidByText := true, laidKinds := [.data], laidTests := true, laidLooks := .later }
def SpanScansUptoCardSaid : Prop := Claim7.holds Tryd.pinned (.plain (OpenSpec.upto spanScansSpec)) spanScansUptoCard

/-- THE SECOND FORM's CARD OF 'shelfmarklaw12.SpanNumbers'. -/
def spanNumbersUptoCard : Claim7 := { stood := { row := spanNumbersUptoRow, standIns := [], harness := (true, "1cf133ccc53237ac691e9f016db09119e8d2bc6cf2d7ae7a865aea990886d73d"), looks := false }, kinds := [], alts := [], laidByText := true, laidKinds := [.data], laidTests := true, laidLooks := .later }
def SpanNumbersUptoCardSaid : Prop := Claim7.holds Tryd.pinned (.plain (OpenSpec.upto spanNumbersSpec)) spanNumbersUptoCard

/-- THE SECOND FORM's CARD OF 'shelfmarklaw12.SpanBetween'. -/
def spanBetweenUptoCard : Claim7 := { stood := { row := spanBetweenUptoRow, standIns := [], harness := (true, "1cf133ccc53237ac691e9f016db09119e8d2bc6cf2d7ae7a865aea990886d73d"), looks := false }, kinds := [], alts := [], laidByText := true, laidKinds := [.data], laidTests := true, laidLooks := .later }
def SpanBetweenUptoCardSaid : Prop := Claim7.holds Tryd.pinned (.plain (OpenSpec.upto spanBetweenSpec)) spanBetweenUptoCard

/-- THE SECOND FORM's CARD OF 'shelfmarklaw12.SpanHalves'. -/
def spanHalvesUptoCard : Claim7 := { stood := { row := spanHalvesUptoRow, standIns := [], harness := (true, "1cf133ccc53237ac691e9f016db09119e8d2bc6cf2d7ae7a865aea990886d73d"), looks := false }, kinds := [], alts := [], laidByText := true, laidKinds := [.data], laidTests := true, laidLooks := .later }
def SpanHalvesUptoCardSaid : Prop := Claim7.holds Tryd.pinned (.plain (OpenSpec.upto spanHalvesSpec)) spanHalvesUptoCard
end Rows
end Go.Proofs.YtfdpkmafemidjaaDoor
