/-
  DERIVED. GIVEN WITH THE SEED: THE CARDS: each row of YtmmkaabefofdeaaDoorRows.lean that lists a variable, with what it lists TIED to the program's text (the seventh form; the later family's looks); each row that meets fmt, with fmt's text TOLD by the authors' own Lean function (tested against real Go, not proved from fmt's source: count such statements apart). THE CARD IS WHAT COUNTS. Prove the row's statement (the work); the ties are given (YtmmkaabefofdeaaDoorTie.lean); close each card by the builder's one call (the guide's Derived/Test/ToyasCard.lean, 'card_holds'). Laid BY PROGRAM, IN A SANDBOX (cutbox-door.mjs). By AI agents, Wed Nov 11 2026. No macro, syntax, notation, axiom, sorry.
-/
import Derived.Test.YtmmkaabefofdeaaDoorRows
import GoSem.ClaimSeven
namespace Go.Proofs.YtmmkaabefofdeaaDoor
namespace Rows

/-- THE TIED CARD OF 'shelfmarklaw08.LayNames'. -/
def layNamesCard : Claim7 := { stood := { row := layNamesRow, standIns := [], harness := (true, "26427628e9a439398ee538531246d2cc86e8181ead09169f0dfa2facde613923"), looks := false }, kinds := [], alts := [], laidByText := true, laidKinds := [.data], laidTests := true, laidLooks := .later }
def LayNamesCardSaid : Prop := Claim7.holds Tryd.pinned (.plain (OpenSpec.ofChange layNamesSpec)) layNamesCard

/-- THE TIED CARD OF 'shelfmarklaw08.LayTells'. -/
def layTellsCard : Claim7 := { stood := { row := layTellsRow, standIns := [], harness := (true, "26427628e9a439398ee538531246d2cc86e8181ead09169f0dfa2facde613923"), looks := false }, kinds := [], alts := [], laidByText := true, laidKinds := [.data], laidTests := true, laidLooks := .later }
def LayTellsCardSaid : Prop := Claim7.holds Tryd.pinned (.plain (OpenSpec.ofChange layTellsSpec)) layTellsCard

/-- THE TIED CARD OF 'shelfmarklaw08.LayWide'. -/
def layWideCard : Claim7 := { stood := { row := layWideRow, standIns := [], harness := (true, "26427628e9a439398ee538531246d2cc86e8181ead09169f0dfa2facde613923"), looks := false }, kinds := [], alts := [], laidByText := true, laidKinds := [.data], laidTests := true, laidLooks := .later }
def LayWideCardSaid : Prop := Claim7.holds Tryd.pinned (.plain (OpenSpec.ofChange layWideSpec)) layWideCard

/-- THE TIED CARD OF 'shelfmarklaw08.LayKeeps'. -/
def layKeepsCard : Claim7 := { stood := { row := layKeepsRow, standIns := [], harness := (true, "26427628e9a439398ee538531246d2cc86e8181ead09169f0dfa2facde613923"), looks := false }, kinds := [], alts := [], laidByText := true, laidKinds := [.data], laidTests := true, laidLooks := .later }
def LayKeepsCardSaid : Prop := Claim7.holds Tryd.pinned (.plain (OpenSpec.ofChange layKeepsSpec)) layKeepsCard

/-- THE TIED CARD OF 'shelfmarklaw08.LayShares'. -/
def laySharesCard : Claim7 := { stood := { row := laySharesRow, standIns := [], harness := (true, "26427628e9a439398ee538531246d2cc86e8181ead09169f0dfa2facde613923"), looks := false }, kinds := [], alts := [], laidByText := true, laidKinds := [.data], laidTests := true, laidLooks := .later }
def LaySharesCardSaid : Prop := Claim7.holds Tryd.pinned (.plain (OpenSpec.ofChange laySharesSpec)) laySharesCard

/-- THE TIED CARD OF 'shelfmarklaw08.LaySame'. -/
def laySameCard : Claim7 := { stood := { row := laySameRow, standIns := [], harness := (true, "26427628e9a439398ee538531246d2cc86e8181ead09169f0dfa2facde613923"), looks := false }, kinds := [], alts := [], laidByText := true, laidKinds := [.data], laidTests := true, laidLooks := .later }
def LaySameCardSaid : Prop := Claim7.holds Tryd.pinned (.plain (OpenSpec.ofChange laySameSpec)) laySameCard

/-- THE SECOND FORM's CARD OF 'shelfmarklaw08.LayNames'. -/
def layNamesUptoCard : Claim7 := { stood := { row := layNamesUptoRow, standIns := [], harness := (true, "26427628e9a439398ee538531246d2cc86e8181ead09169f0dfa2facde613923"), looks := false }, kinds := [], alts := [], laidByText := true, laidKinds := [.data], laidTests := true, laidLooks := .later }
def LayNamesUptoCardSaid : Prop := Claim7.holds Tryd.pinned (.plain (OpenSpec.upto layNamesSpec)) layNamesUptoCard

/-- THE SECOND FORM's CARD OF 'shelfmarklaw08.LayTells'. -/
def layTellsUptoCard : Claim7 := { stood := { row := layTellsUptoRow, standIns := [], harness := (true, "26427628e9a439398ee538531246d2cc86e8181ead09169f0dfa2facde613923"), looks := false }, kinds := [], alts := [], laidByText := true, laidKinds := [.data], laidTests := true, laidLooks := .later }
def LayTellsUptoCardSaid : Prop := Claim7.holds Tryd.pinned (.plain (OpenSpec.upto layTellsSpec)) layTellsUptoCard

/-- THE SECOND FORM's CARD OF 'shelfmarklaw08.LayWide'. -/
def layWideUptoCard : Claim7 := { stood := { row := layWideUptoRow, standIns := [], harness := (true, "26427628e9a439398ee538531246d2cc86e8181ead09169f0dfa2facde613923"), looks := false }, kinds := [], alts := [], laidByText := true, laidKinds := [.data], laidTests := true, laidLooks := .later }
def LayWideUptoCardSaid : Prop := Claim7.holds Tryd.pinned (.plain (OpenSpec.upto layWideSpec)) layWideUptoCard

/-- THE SECOND FORM's CARD OF 'shelfmarklaw08.LayKeeps'. -/
def layKeepsUptoCard : Claim7 := { stood := { row := layKeepsUptoRow, standIns := [], harness := (true, "26427628e9a439398ee538531246d2cc86e8181ead09169f0dfa2facde613923"), looks := false }, kinds := [], alts := [], laidByText := true, laidKinds := [.data], laidTests := true, laidLooks := .later }
def LayKeepsUptoCardSaid : Prop := Claim7.holds Tryd.pinned (.plain (OpenSpec.upto layKeepsSpec)) layKeepsUptoCard

/-- THE SECOND FORM's CARD OF 'shelfmarklaw08.LayShares'. -/
def laySharesUptoCard : Claim7 := { stood := { row := laySharesUptoRow, standIns := [], harness := (true, "26427628e9a439398ee538531246d2cc86e8181ead09169f0dfa2facde613923"), looks := false }, kinds := [], alts := [], laidByText := true, laidKinds := [.data], laidTests := true, laidLooks := .later }
def LaySharesUptoCardSaid : Prop := Claim7.holds Tryd.pinned (.plain (OpenSpec.upto laySharesSpec)) laySharesUptoCard

/-- THE SECOND FORM's CARD OF 'shelfmarklaw08.LaySame'. -/
def laySameUptoCard : Claim7 := { stood := { row := laySameUptoRow, standIns := [], harness := (true, "26427628e9a439398ee538531246d2cc86e8181ead09169f0dfa2facde613923"), looks := false }, kinds := [], alts := [], laidByText := true, laidKinds := [.data], laidTests := true, laidLooks := .later }
def LaySameUptoCardSaid : Prop := Claim7.holds Tryd.pinned (.plain (OpenSpec.upto laySameSpec)) laySameUptoCard
end Rows
end Go.Proofs.YtmmkaabefofdeaaDoor
