/- What New of the document's own answers returns. -/
import Derived.Test.YtfdpkmafemidjaaDoorM04Sp
import Derived.Deep.DeepCutAuto
import Derived.Test.YtfdpkmafemidjaaDoorTkSp
set_option linter.unusedVariables false
set_option linter.unusedSimpArgs false
namespace Go.Proofs.YtfdpkmafemidjaaDoor
open Go.RowKit
theorem empty_made (sg m:Nat):Sl.empty sg m=slMade sg ((m+63)/64) m (m/sg):=by
 unfold Sl.empty slMade
 have h1:(((m:Int)+63)/64).toNat=(m+63)/64:=by omega
 have h2:((m:Int)/(sg:Int)).toNat=m/sg:=by rw [show (m:Int)/(sg:Int)=((m/sg:Nat):Int) from by simp];exact Int.toNat_natCast _
 rw [h1,h2,Int.toNat_natCast]
end Go.Proofs.YtfdpkmafemidjaaDoor
