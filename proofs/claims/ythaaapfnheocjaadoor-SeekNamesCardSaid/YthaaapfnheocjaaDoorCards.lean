/-
  DERIVED. GIVEN WITH THE SEED: THE CARDS: each row of YthaaapfnheocjaaDoorRows.lean that lists a variable, with what it lists TIED to the program's text (the seventh form; the later family's looks); each row that meets fmt, with fmt's text TOLD by the authors' own Lean function (tested against real Go, not proved from fmt's source: count such statements apart). THE CARD IS WHAT COUNTS. Prove the row's statement (the work); the ties are given (YthaaapfnheocjaaDoorTie.lean); close each card by the builder's one call (the guide's Derived/Test/ToyasCard.lean, 'card_holds'). Laid BY PROGRAM, IN A SANDBOX (cutbox-door.mjs). By AI agents, Wed Nov 11 2026. No macro, syntax, notation, axiom, sorry.
-/
import Derived.Test.YthaaapfnheocjaaDoorRows
import GoSem.ClaimSeven
namespace Go.Proofs.YthaaapfnheocjaaDoor
namespace Rows

/-- THE TIED CARD OF 'shelfmarklaw10.SeekNames'. -/
def seekNamesCard : Claim7 := { stood := { row := seekNamesRow, standIns := [], harness := (true, "e6654e3861cc2f0ff11431c46dca5609e5d30da8c5592054902b61ab2e60fa16"), looks := false }, kinds := [], alts := [], laidByText := true, laidKinds := [.data], laidTests := true, laidLooks := .later }
def SeekNamesCardSaid : Prop := Claim7.holds Tryd.pinned (.plain (OpenSpec.ofChange seekNamesSpec)) seekNamesCard

/-- THE TIED CARD OF 'shelfmarklaw10.SeekTells'. -/
def seekTellsCard : Claim7 := { stood := { row := seekTellsRow, standIns := [], harness := (true, "e6654e3861cc2f0ff11431c46dca5609e5d30da8c5592054902b61ab2e60fa16"), looks := false }, kinds := [], alts := [], laidByText := true, laidKinds := [.data], laidTests := true, laidLooks := .later }
def SeekTellsCardSaid : Prop := Claim7.holds Tryd.pinned (.plain (OpenSpec.ofChange seekTellsSpec)) seekTellsCard

/-- THE TIED CARD OF 'shelfmarklaw10.SeekPlaces'. -/
def seekPlacesCard : Claim7 := { stood := { row := seekPlacesRow, standIns := [], harness := (true, "e6654e3861cc2f0ff11431c46dca5609e5d30da8c5592054902b61ab2e60fa16"), looks := false }, kinds := [], alts := [], laidByText := true, laidKinds := [.data], laidTests := true, laidLooks := .later }
def SeekPlacesCardSaid : Prop := Claim7.holds Tryd.pinned (.plain (OpenSpec.ofChange seekPlacesSpec)) seekPlacesCard

/-- THE TIED CARD OF 'shelfmarklaw10.SeekRises'. -/
def seekRisesCard : Claim7 := { stood := { row := seekRisesRow, standIns := [], harness := (true, "e6654e3861cc2f0ff11431c46dca5609e5d30da8c5592054902b61ab2e60fa16"), looks := false }, kinds := [], alts := [], laidByText := true, laidKinds := [.data], laidTests := true, laidLooks := .later }
def SeekRisesCardSaid : Prop := Claim7.holds Tryd.pinned (.plain (OpenSpec.ofChange seekRisesSpec)) seekRisesCard

/-- THE SECOND FORM's CARD OF 'shelfmarklaw10.SeekNames'. -/
def seekNamesUptoCard : Claim7 := { stood := { row := seekNamesUptoRow, standIns := [], harness := (true, "e6654e3861cc2f0ff11431c46dca5609e5d30da8c5592054902b61ab2e60fa16"), looks := false }, kinds := [], alts := [], laidByText := true, laidKinds := [.data], laidTests := true, laidLooks := .later }
def SeekNamesUptoCardSaid : Prop := Claim7.holds Tryd.pinned (.plain (OpenSpec.upto seekNamesSpec)) seekNamesUptoCard

/-- THE SECOND FORM's CARD OF 'shelfmarklaw10.SeekTells'. -/
def seekTellsUptoCard : Claim7 := { stood := { row := seekTellsUptoRow, standIns := [], harness := (true, "e6654e3861cc2f0ff11431c46dca5609e5d30da8c5592054902b61ab2e60fa16"), looks := false }, kinds := [], alts := [], laidByText := true, laidKinds := [.data], laidTests := true, laidLooks := .later }
def SeekTellsUptoCardSaid : Prop := Claim7.holds Tryd.pinned (.plain (OpenSpec.upto seekTellsSpec)) seekTellsUptoCard

/-- THE SECOND FORM's CARD OF 'shelfmarklaw10.SeekPlaces'. -/
def seekPlacesUptoCard : Claim7 := { stood := { row := seekPlacesUptoRow, standIns := [], harness := (true, "e6654e3861cc2f0ff11431c46dca5609e5d30da8c5592054902b61ab2e60fa16"), looks := false }, kinds := [], alts := [], laidByText := true, laidKinds := [.data], laidTests := true, laidLooks := .later }
def SeekPlacesUptoCardSaid : Prop := Claim7.holds Tryd.pinned (.plain (OpenSpec.upto seekPlacesSpec)) seekPlacesUptoCard

/-- THE SECOND FORM's CARD OF 'shelfmarklaw10.SeekRises'. -/
def seekRisesUptoCard : Claim7 := { stood := { row := seekRisesUptoRow, standIns := [], harness := (true, "e6654e3861cc2f0ff11431c46dca5609e5d30da8c5592054902b61ab2e60fa16"), looks := false }, kinds := [], alts := [], laidByText := true, laidKinds := [.data], laidTests := true, laidLooks := .later }
def SeekRisesUptoCardSaid : Prop := Claim7.holds Tryd.pinned (.plain (OpenSpec.upto seekRisesSpec)) seekRisesUptoCard
end Rows
end Go.Proofs.YthaaapfnheocjaaDoor
