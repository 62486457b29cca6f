/- Package om's closures, and what it lets in and takes out. -/
import Derived.Test.YtpeckljoannolaaGreatDoorS1bOt
import Derived.Test.YtpeckljoannolaaGreatDoorS1aOt
import Derived.Test.YtpeckljoannolaaGreatDoorP9fOt
import Derived.Test.YtpeckljoannolaaGreatDoorM16Ot
import Derived.Test.YtpeckljoannolaaGreatDoorM10Ot
import Derived.Test.YtpeckljoannolaaGreatDoorP09Ot
import Derived.Test.YtpeckljoannolaaGreatDoorS1eOt
import Derived.Test.YtpeckljoannolaaGreatDoorTkOt
import Derived.Deep.CutRange
import Derived.Test.YtpeckljoannolaaGreatDoorS1fOt
set_option linter.unusedVariables false
set_option linter.unusedSimpArgs false
namespace Go.Proofs.YtpeckljoannolaaGreatDoor
open Go.RowKit
theorem OBox.tab {w:World} {b:Nat} {o:Od} {a:Ads} {A:HAds} (h:OBox w b o a A) (t:Ht) (A':HAds):OBox ((w.setCell ⟨b,15,none⟩ (.slice A'.g t.gens.length A'.cg)).setCell ⟨b,16,none⟩ (.slice A'.a t.ats.length A'.ca)) b ⟨o.cf,o.sl,t,o.moved⟩ a A':=by
 obtain⟨T,h⟩:=h;exact⟨T,heap_set (heap_set h _) _⟩
theorem Laid1.held {w w':World} {g B:Nat} {s:Sl} {a:Ads} (h:Laid1 w g w') (hs:Own w B s a) (hg:g < B):Own w' B s a:=⟨h.newB hs.words hg,h.newB hs.keys hg,h.newB hs.vals hg,h.newB hs.counts hg,hs.caps⟩
namespace Om
def inV (o:Od) (k:Nat):Od:=if inE o=0 then inO o k else Od.zero
end Om
end Go.Proofs.YtpeckljoannolaaGreatDoor
