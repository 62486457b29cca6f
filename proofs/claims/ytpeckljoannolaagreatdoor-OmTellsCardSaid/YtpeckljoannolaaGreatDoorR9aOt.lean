/- What the document's own over, under, AmongW and Added return. -/
import Derived.Test.YtpeckljoannolaaGreatDoorP9rOt
import Derived.Test.YtpeckljoannolaaGreatDoorR01Ot
import Derived.Test.YtpeckljoannolaaGreatDoorP09Ot
import Derived.Test.YtpeckljoannolaaGreatDoorM08Ot
import Derived.Test.YtpeckljoannolaaGreatDoorTkOt
set_option linter.unusedVariables false
set_option linter.unusedSimpArgs false
namespace Go.Proofs.YtpeckljoannolaaGreatDoor
open Go.RowKit
theorem own_lstP {w:World} {base:Nat} {e:TypeId} {v:Value} {ps:List Nat} (h:w.ownsRow base e 1 v ps.length (ps.map fun s:Nat=>Value.int .i64 (s:Int))) :
  ∃ A cap,v=.slice A ps.length cap/\Lst .i64 w A (ints ps):=by
 rcases h.2 with⟨hv,h0⟩ | ⟨g,cap,cur,hv,_⟩
 ·exact⟨none,0,by rw [hv,h0],by rw [List.eq_nil_of_length_eq_zero h0];exact Or.inl rfl⟩
 ·subst hv
  refine⟨_,cap,rfl,?_⟩
  by_cases h0:ps=[]
  ·rw [h0];exact Or.inl rfl
  ·refine Or.inr ⟨g,0,rfl,(World.ownsRow.lt h g rfl).2,fun i hi=>?_⟩
   rw [ints_length] at hi;have:=World.ownsRow.cells h (g:=g) rfl i (.int .i64 ((ps.getD i 0:Nat):Int)) (by simp [List.getD,List.getElem?_eq_getElem hi]);rw [ints_getD,<-this]
   congr 1
   unfold Addr.add
   split<;>simp_all
theorem r2PlacesP (a:Option Addr) (cap:Nat) (ws:List Nat) (lo hi:Nat) (w:World) (hl:Lst .u64 w a (ints ws)) (hw:Wide ws) (hn:ws.length<=65536) (hh:hi<=64*ws.length) (hlo:lo<=4194304) :
  Calls Tryz.prog 138 #[.slice a ws.length cap,.int .i64 (lo:Int),.int .i64 (hi:Int)] w fun e w'=>∃ A c,e=.returned (.slice A (Oc.places ws lo hi).length c)/\Lst .i64 w' A (ints (Oc.places ws lo hi))/\Below w.heap.size w w':=by
 refine (r2Places a cap ws lo hi w hl hw hn hh hlo).mono ?_;rintro e w' ⟨v,rfl,hown,hb⟩;obtain⟨A,c,rfl,hL⟩:=own_lstP hown;exact⟨A,c,rfl,hL,hb⟩
theorem Lst.numP {w:World} {a:Option Addr} {ps:List Nat} (h:Lst .i64 w a (ints ps)) {i:Nat} (hi:i < ps.length) :
  ∃ b off,a=some ⟨b,off,none⟩/\b < w.heap.size/\w.cell? ⟨b,off+i,none⟩=some (.int .i64 ((ps.getD i 0:Nat):Int)):=by
 have:=h.cell (i:=i) (by rw [ints_length];exact hi);rw [ints_getD] at this;exact this
end Go.Proofs.YtpeckljoannolaaGreatDoor
