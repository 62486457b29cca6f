/- What package spread returns. -/
import Derived.Test.YtpeckljoannolaaGreatDoorM11Ot
import Derived.Test.YtpeckljoannolaaGreatDoorM01Ot
import Derived.Test.YtpeckljoannolaaGreatDoorR01Ot
import Derived.Test.YtpeckljoannolaaGreatDoorP06Ot
import Derived.Deep.DeepCutAuto
import Derived.StillTailTactics
import Derived.RangeFuncBox
import Derived.BigQuiet
import Derived.IntWalk
import Derived.OwnWalkIn
import Derived.Test.YtpeckljoannolaaGreatDoorM10Ot
import Derived.Test.YtpeckljoannolaaGreatDoorTkOt
set_option linter.unusedVariables false
set_option linter.unusedSimpArgs false
namespace Go.Proofs.YtpeckljoannolaaGreatDoor
open Go.RowKit Go.Shelf
attribute [local go_sem] Oper.semAt_some
theorem own_keeps {W W':World} {base:Nat} {e:TypeId} {size:Nat} {v:Value} {n:Nat} {xs:List Value} (h:W.ownsRow base e size v n xs) (hg:W.grownBy W' v.ownBlock):KeepsOthers W W':=by
 refine KeepsOthers.of_grownBy hg fun j o hj ho=>?_
 rcases h.2 with⟨hv,_⟩ | ⟨g,c,cur,hv,_,hh,_⟩
 ·subst hv;simp [Value.ownBlock] at hj
 ·subst hv
  simp [Value.ownBlock] at hj
  subst hj;rw [hh] at ho;cases ho;rfl
theorem leaves_one {F:Fence} {n:Nat} {P:Program} {fn:Func} {tmps:Array Value} {R:Ending->World->Prop} {D:Nat} {w:World} (hD:w.heap[D]?=some (.deferred (some [])))
  (hL:LeavesIn F n P fn tmps R [] .returning (w.putObj D (.deferred none))):LeavesInM F n P fn tmps R [{ target:=.collected D,args:=#[] }] .returning w :=
 ⟨by simp,.inl ⟨D,_,rfl,run_takeDeferred hD,hL⟩⟩
theorem row_far {w:World} {base:Nat} {e:TypeId} {size:Nat} {v:Value} {n:Nat} {xs:List Value} (h:w.ownsRow base e size v n xs) {b:Nat} (hb:b < base) (u:Value):(w.setCell ⟨b,0,none⟩ u).ownsRow base e size v n xs:=by
 refine⟨h.1,?_⟩
 rcases h.2 with h2 | ⟨g,c,cur,hv,hg,hh,r⟩
 ·exact Or.inl h2
 ·exact Or.inr ⟨g,c,cur,hv,hg,(Below.heap_setCell w ⟨b,0,none⟩ u g (by show g≠b;omega)).trans hh,r⟩
theorem boxed_low {w w':World} {n b:Nat} {t:TypeId} {v:Value} (h:Boxed w b t v) (hn:b < n) (hb:Below n w w'):Boxed w' b t v:=(hb.block b hn).trans h
end Go.Proofs.YtpeckljoannolaaGreatDoor
namespace Go.Proofs.YtpeckljoannolaaGreatDoor
open Go.RowKit Go.Shelf
attribute [local go_sem] Oper.semAt_some
namespace Sp
end Sp
structure PlBox (B1 B2 B3:Nat) (n f t:Int) (W:World):Prop where
 x1:Boxed W B1 3 (.int .i64 n)
 x2:Boxed W B2 3 (.int .i64 f)
 x3:Boxed W B3 3 (.int .i64 (t-f))
def PlZ (B1 B2 B3:Nat) (k:Nat):Prop:=k=B1∨k=B2∨k=B3
theorem PlBox.kept {B1 B2 B3:Nat} {n f t:Int} {A B:World} (h:PlBox B1 B2 B3 n f t A) (hk:Kept (PlZ B1 B2 B3) A B):PlBox B1 B2 B3 n f t B :=
 ⟨hk.boxed h.x1 (Or.inl rfl),hk.boxed h.x2 (Or.inr (Or.inl rfl)),hk.boxed h.x3 (Or.inr (Or.inr rfl))⟩
end Go.Proofs.YtpeckljoannolaaGreatDoor
