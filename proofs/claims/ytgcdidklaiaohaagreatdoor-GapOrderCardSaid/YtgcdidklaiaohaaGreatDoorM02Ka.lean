/- What the document's own answers of layers 1 and 2 return. -/
import Derived.Test.YtgcdidklaiaohaaGreatDoorProg
import Derived.Test.YtgcdidklaiaohaaGreatDoorM01Ka
import Derived.Deep.QuietTactic
import Derived.BigQuiet
import Derived.WalkSmall
namespace Go.Proofs.YtgcdidklaiaohaaGreatDoor
open Go.RowKit
set_option linter.unusedVariables false

def vals (ws : List Nat) : List Value := ws.map fun x : Nat => Value.int .u64 (x : Int)
end Go.Proofs.YtgcdidklaiaohaaGreatDoor
