/- What package lay returns. -/
import Derived.Test.YtpeckljoannolaaGreatDoorP08Ot
import Derived.Test.YtpeckljoannolaaGreatDoorM04Ot
import Derived.ArgAppend
import Derived.ScopeJumps
import Derived.Test.YtpeckljoannolaaGreatDoorTkOt
set_option linter.unusedVariables false
set_option linter.unusedSimpArgs false
namespace Go.Proofs.YtpeckljoannolaaGreatDoor
open Go.RowKit
theorem ans_put6 {w W:World} {B r:Nat} {s:Sl} {a:Ads} (own:Own W B s a) (below:Below w.heap.size w W) (hr:r < B) (hw:w.heap.size<=r) (u0 u1 u2 u3 u4 u5:Value) :
  Own (put6 W r u0 u1 u2 u3 u4 u5) w.heap.size s a/\Below w.heap.size w (put6 W r u0 u1 u2 u3 u4 u5):=by
 have hb:w.heap.size<=B:=by omega
 exact⟨⟨(own.words.put6 hr _ _ _ _ _ _).lower hb,(own.keys.put6 hr _ _ _ _ _ _).lower hb,(own.vals.put6 hr _ _ _ _ _ _).lower hb,(own.counts.put6 hr _ _ _ _ _ _).lower hb,own.caps⟩,below_put6 below hw _ _ _ _ _ _⟩
end Go.Proofs.YtpeckljoannolaaGreatDoor
