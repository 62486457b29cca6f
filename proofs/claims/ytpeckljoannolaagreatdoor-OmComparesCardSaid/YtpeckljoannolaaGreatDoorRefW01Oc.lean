/- What the document's own answers of layer 1 on lists of numbers return: SameInts, Rises; rows of numbers of one's own. They only read. -/
import Derived.Test.YtpeckljoannolaaGreatDoorProg
import Derived.Test.YtpeckljoannolaaGreatDoorM01Oc
import Derived.WalkKit
import Derived.WalkSpells
import Derived.WalkLawsBesides
import Derived.Lib.Hide
import Derived.BigQuiet
import Derived.LoopTactic
import Derived.Test.YtpeckljoannolaaGreatDoorTkOc
set_option linter.unusedVariables false
set_option linter.unusedSimpArgs false
namespace Go.Proofs.YtpeckljoannolaaGreatDoor
open Go.RowKit
theorem elemI:Elem Tryz.prog 26 3 (.int .i64 0) 1 8 :=
 ⟨Tryz.underlying26,info_parts (show (Tryz.prog.info? 3).map (fun i=>(i.zero,i.size,i.bytes))=some (some (.int .i64 0),1,8) by kernel_rfl),rfl,by decide⟩
theorem irow_list {zs:List Int} {base:Nat} {w:World} {v:Value} (h:w.ownsRow base 3 1 v zs.length (zs.map (Value.int .i64))):∃ A c,v=.slice A zs.length c/\Lst .i64 w A zs:=by
 obtain⟨A,c,h1,h2,_⟩:=own_cells h;exact⟨A,c,h1,Cells.lst h2⟩
end Go.Proofs.YtpeckljoannolaaGreatDoor
