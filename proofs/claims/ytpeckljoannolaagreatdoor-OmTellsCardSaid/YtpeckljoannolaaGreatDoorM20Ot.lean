/- What Fill of package slots returns. -/
import Derived.Test.YtpeckljoannolaaGreatDoorM08Ot
import Derived.Test.YtpeckljoannolaaGreatDoorM16Ot
import Derived.Test.YtpeckljoannolaaGreatDoorP07Ot
import Derived.Test.YtpeckljoannolaaGreatDoorTkOt
set_option linter.unusedVariables false
set_option linter.unusedSimpArgs false
namespace Go.Proofs.YtpeckljoannolaaGreatDoor
open Go.RowKit
structure Good (s:Sl):Prop where
 may:s.May
 ok:s.Ok
 short:s.Short
theorem Good.emptied {s:Sl} (h:Good s) {i:Nat} (hi:i < s.keys.length):Good (s.emptied i):=⟨h.may.emptied hi,((may_fit (may_iff.2 h.may) h.ok h.short).emptied (by omega) _).ok,h.short.emptied i⟩
theorem Turned.kept {Z:Nat->Prop} {n g:Nat} {a:Ads} {V W W':World} (h:Turned g a W W') (hl:Lies V n a) (hz:∀ k,Z k->k < W.heap.size/\k≠g/\(k < n∨V.heap.size<=k)):Kept Z W W' :=
 ⟨h.size,fun k hk=>by
  obtain⟨h1,h2,h3⟩:=hz k hk
  exact h.block k h1 h2 (fun p hp=>by have:=hl.w p hp;omega) (fun p hp=>by have:=hl.k p hp;omega) (fun p hp=>by have:=hl.v p hp;omega) (fun p hp=>by have:=hl.c p hp;omega)⟩
end Go.Proofs.YtpeckljoannolaaGreatDoor
