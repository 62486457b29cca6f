/- What package gap's highest returns, of a closure that tells which windows are over. -/
import Derived.Test.YtgcdidklaiaohaaGreatDoorP9aLo
import Derived.OrdersHeld
import Derived.OrdersIn
import Derived.RangeFuncCalls
import Derived.Deep.RegionHeld
import Derived.Test.YtgcdidklaiaohaaGreatDoorP07Lo
import Derived.Test.YtgcdidklaiaohaaGreatDoorP6aLo
namespace Go.Proofs.YtgcdidklaiaohaaGreatDoor
open Go.RowKit Go.Shelf
attribute [local go_sem] Oper.semAt_some
set_option linter.unusedVariables false
set_option linter.unusedSimpArgs false

/-- A path's items from the last one down, k of them. -/
def bk (ps : List (Int × Int)) (k : Nat) : List (Nat × (Int × Int)) := (List.range k).map fun j => (ps.length - 1 - j, ps.getD (ps.length - 1 - j) (0, 0))
namespace Gp
end Gp
end Go.Proofs.YtgcdidklaiaohaaGreatDoor
