/- What Lay, Clear and Move of the document's own answers return. -/
import Derived.Test.YtfdpkmafemidjaaDoorM04Sp
import Derived.Deep.DeepCutAuto
import Derived.Test.YtfdpkmafemidjaaDoorTkSp
set_option linter.unusedVariables false
set_option linter.unusedSimpArgs false
namespace Go.Proofs.YtfdpkmafemidjaaDoor
open Go.RowKit
theorem layS_no {s:Sl} {i:Int} {p:Int×Int} (h:s.layE i≠0):s.layS i p=Sl.none:=by unfold Sl.layS;rw [if_neg h]
theorem at_parts {s:Sl} {i:Int} (h:s.atE i=0):s.mayB=true/\0<=i/\i < s.keys.length/\Oc.isB s.words i.toNat=true:=by
 unfold Sl.atE at h
 split at h
 ·rename_i h1
  split at h
  ·rename_i h2
   split at h
   ·rename_i h3
    exact⟨h1,(slot_iff.1 h2).1,(slot_iff.1 h2).2,h3⟩
   ·cases h
  ·cases h
 ·cases h
end Go.Proofs.YtfdpkmafemidjaaDoor
