/- What the document's own answers of layer 14 (package shelfmarkref14) return that only read: Check, Same, Live, Is, Find. -/
import Derived.Test.YtpeckljoannolaaGreatDoorFn14Oc
import Derived.Test.YtpeckljoannolaaGreatDoorRefW01Oc
import Derived.Test.YtpeckljoannolaaGreatDoorTkOc
set_option linter.unusedVariables false
set_option linter.unusedSimpArgs false
namespace Go.Proofs.YtpeckljoannolaaGreatDoor
open Go.RowKit
theorem live_take (zs:List Int) (k:Nat) (h:k < zs.length):Hn.live (zs.take (k+1))=Hn.live (zs.take k)+(if 0<=zs.getD k 0 then 1 else 0):=by
 rw [List.take_succ_eq_append_getElem h];unfold Hn.live;rw [List.filter_append,List.length_append]
 simp only [List.getD,List.getElem?_eq_getElem h,Option.getD_some]
 by_cases hz:0<=zs[k]<;>simp [hz]
theorem live_le (zs:List Int):Hn.live zs<=zs.length:=List.length_filter_le _ _
end Go.Proofs.YtpeckljoannolaaGreatDoor
