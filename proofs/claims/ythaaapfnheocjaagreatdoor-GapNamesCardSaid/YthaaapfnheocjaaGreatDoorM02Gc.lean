/- What the document's own answers of layers 1 and 2 return. -/
import Derived.Test.YthaaapfnheocjaaGreatDoorProg
import Derived.Test.YthaaapfnheocjaaGreatDoorM01Gc
import Derived.Deep.QuietTactic
import Derived.BigQuiet
import Derived.WalkSmall
import Derived.Test.YthaaapfnheocjaaGreatDoorTkGc
set_option linter.unusedVariables false
set_option linter.unusedSimpArgs false
namespace Go.Proofs.YthaaapfnheocjaaGreatDoor
open Go.RowKit
def vals (ws:List Nat):List Value:=ws.map fun x:Nat=>Value.int .u64 (x:Int)
end Go.Proofs.YthaaapfnheocjaaGreatDoor
