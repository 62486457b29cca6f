/- What package gap's highest returns, of a closure that tells which windows are over. -/
import Derived.Test.YtpeckljoannolaaGreatDoorP9aOt
import Derived.Test.YtpeckljoannolaaGreatDoorP6bOt
import Derived.Test.YtpeckljoannolaaGreatDoorP07Ot
import Derived.Test.YtpeckljoannolaaGreatDoorP6aOt
import Derived.Test.YtpeckljoannolaaGreatDoorTkOt
set_option linter.unusedVariables false
set_option linter.unusedSimpArgs false
namespace Go.Proofs.YtpeckljoannolaaGreatDoor
open Go.RowKit Go.Shelf
attribute [local go_sem] Oper.semAt_some
def bk (ps:List (Int×Int)) (k:Nat):List (Nat×(Int×Int)):=(List.range k).map fun j=>(ps.length-1-j,ps.getD (ps.length-1-j) (0,0))
namespace Gp
end Gp
end Go.Proofs.YtpeckljoannolaaGreatDoor
