/- What Lay, Clear and Move of the document's own answers return. -/
import Derived.Test.YthaaapfnheocjaaGreatDoorM04Gc
import Derived.Deep.DeepCutAuto
import Derived.Test.YthaaapfnheocjaaGreatDoorTkGc
set_option linter.unusedVariables false
set_option linter.unusedSimpArgs false
namespace Go.Proofs.YthaaapfnheocjaaGreatDoor
open Go.RowKit
theorem clearS_no {s:Sl} {i:Int} (h:s.atE i≠0):s.clearS i=Sl.none:=by unfold Sl.clearS;rw [if_neg h]
theorem at_parts {s:Sl} {i:Int} (h:s.atE i=0):s.mayB=true/\0<=i/\i < s.keys.length/\Oc.isB s.words i.toNat=true:=by
 unfold Sl.atE at h
 split at h
 ·rename_i h1
  split at h
  ·rename_i h2
   split at h
   ·rename_i h3
    exact⟨h1,(slot_iff.1 h2).1,(slot_iff.1 h2).2,h3⟩
   ·cases h
  ·cases h
 ·cases h
end Go.Proofs.YthaaapfnheocjaaGreatDoor
