/- What the law package of layer 15's spoil does: a list in new memory is written over; all else stays. -/
import Derived.Test.YtpeckljoannolaaGreatDoorS15Ot
import Derived.Test.YtpeckljoannolaaGreatDoorM08Ot
import Derived.Test.YtpeckljoannolaaGreatDoorTkOt
set_option linter.unusedVariables false
set_option linter.unusedSimpArgs false
set_option maxHeartbeats 8000000
set_option maxRecDepth 100000
namespace Go.Proofs.YtpeckljoannolaaGreatDoor
open Go.RowKit
structure SoftO (W:World) (B U:Nat) (o:Od) (a:Ads) (A:HAds):Prop where
 sl:SoftS W B U o.sl a
 g:Soft .i64 W A.g o.tb.gens.length
 a:Soft .i64 W A.a o.tb.ats.length
 fg:From B U A.g o.tb.gens.length
 fa:From B U A.a o.tb.ats.length
theorem OOwn.soft {w:World} {B:Nat} {o:Od} {a:Ads} {A:HAds} (h:OOwn w B o a A):SoftO w B w.heap.size o a A:=⟨h.sl.soft,h.tb.gens.soft,h.tb.ats.soft,h.tb.gens.from,h.tb.ats.from⟩
theorem SoftO.keep {w w':World} {B U:Nat} {o:Od} {a:Ads} {A:HAds} (h:SoftO w B U o a A) (hk:∀ k a n,Soft k w a n->Soft k w' a n):SoftO w' B U o a A:=⟨h.sl.keep hk,hk _ _ _ h.g,hk _ _ _ h.a,h.fg,h.fa⟩
theorem SoftO.below {w w':World} {B U:Nat} {o:Od} {a:Ads} {A:HAds} (h:SoftO w B U o a A) (hb:Below w.heap.size w w'):SoftO w' B U o a A:=h.keep (fun _ _ _ hs=>hs.below hb)
def SpOJ (B U:Nat) (o:Od) (a:Ads) (A:HAds) (w:World) (n:Nat) (i:Value) (wr:World):Prop:=∃ k:Nat,k<=n/\i=.int .i64 k/\Spoilt B U w wr/\OBox wr w.heap.size o a A
theorem sp_stepO {B U:Nat} {o:Od} {a:Ads} {A:HAds} {w wr:World} {k:IntKind} {r:Option Addr} {n i:Nat} (hB:Spoilt B U w wr) (hb:OBox wr w.heap.size o a A) (h:Soft k w r n) (hf:From B U r n) (hi:i < n) :
  ∃ b off z,r=some ⟨b,off,none⟩/\wr.cell? ⟨b,off+i,none⟩=some (.int k z)/\wr.frozen? ⟨b,off+i,none⟩=false/\∀ x,Spoilt B U w (wr.setCell ⟨b,off+i,none⟩ (.int k x))/\OBox (wr.setCell ⟨b,off+i,none⟩ (.int k x)) w.heap.size o a A:=by
 rcases h with h0 | ⟨b0,off0,e0,hlt,_⟩
 ·omega
 have hs:=hB.2.1 k r n (Or.inr ⟨b0,off0,e0,hlt,by assumption⟩)
 rcases hs with h0 | ⟨b,off,h1,h2,h3⟩
 ·omega
 obtain⟨⟨z,hz⟩,hfz⟩:=h3 i hi
 have hbb:B<=b/\b < U:=by
  rcases hf with h0 | h0
  ·omega
  ·exact h0 _ h1
 have hbl:b < w.heap.size:=by rw [h1] at e0;injection e0 with e0;injection e0 with e1 e2;omega
 refine⟨b,off,z,h1,hz,hfz,fun x=>⟨⟨hB.1.setCell (p:=⟨b,off+i,none⟩) hbb.1 _,fun k2 a2 n2 hs2=>(hB.2.1 k2 a2 n2 hs2).set hz x,fun g hg hg2=>(Below.heap_setCell wr ⟨b,off+i,none⟩ _ g (by show g≠b;omega)).trans (hB.2.2 g hg hg2)⟩,(Laid1.cell wr ⟨b,off+i,none⟩ _).obox hb (by show w.heap.size≠b;omega)⟩⟩
theorem l15Spoil (o:Od) (a:Ads) (A:HAds) (B U:Nat) (w:World) (h:SoftO w B U o a A) (hB:B<=w.heap.size) (hs:o.Short) :
  Calls Tryz.prog 29 #[odv o a A] w fun e w'=>e=.returned (.tuple #[])/\Spoilt B U w w':=by
 have H:=aq h;have HS0:=aq (show ∀ o,Spoilt B U w (w.alloc o) from fun o=>⟨(Below.refl _ _).alloc hB o,fun k a n hs=>hs.below ((Below.refl _ _).alloc (Nat.le_refl _) o),fun g _ hg=>Below.heap_alloc w o g hg⟩);have HX0:=aq (OBox.new w o a A 33);have l1:=hs.sl.keys;have l2:=hs.sl.counts;have l3:=hs.tb.ats;have l4:=hs.tb.gens;clear h hs;unfold odv
 go_enter Tryz.func29,Tryz.ntmps29
 go_wp2
 go_loopw [2] (SpOJ B U o a A w o.sl.keys.length) (fun i _=>o.sl.keys.length-(intOf i).toNat)
 case atStart=>exact⟨0,Nat.zero_le _,rfl,HS0.out _,HX0.out⟩
 case round =>
  obtain⟨k1,hk1,rfl,hs,hx⟩:=hrel;have HS1:=aq hs;have HX1:=aq hx;clear hs hx HS0 HX0;have p1:=HX1.out.cells.c11
  by_cases hlt1:k1 < o.sl.keys.length
  ·obtain⟨b,off,z,hA,hc,hf,hst⟩:=sp_stepO HS1.out HX1.out H.out.sl.k H.out.sl.fk hlt1
   have HST:=aq hst;rw [hA] at p1;have HA:=aq hA
   have i0:(0:Int)<=(k1:Int):=by omega
   have i1:(k1:Int) < (o.sl.keys.length:Int):=by omega
   clear hst hA;go_wp2
   go_roundw
   case rel=>exact⟨k1+1,by omega,by go_num,(HST.out _).1,(HST.out _).2⟩
   case measure=>simp [intOf];omega
  ·obtain rfl:k1=o.sl.keys.length:=by omega
   go_wp2;clear p1
   go_loopw [3] (SpOJ B U o a A w o.sl.counts.length) (fun i _=>o.sl.counts.length-(intOf i).toNat)
   case atStart=>exact⟨0,Nat.zero_le _,rfl,HS1.out,HX1.out⟩
   case round =>
    obtain⟨k2,hk2,rfl,hs,hx⟩:=hrel;have HS2:=aq hs;have HX2:=aq hx;clear hs hx HS1 HX1;have p2:=HX2.out.cells.c13
    by_cases hlt2:k2 < o.sl.counts.length
    ·obtain⟨b,off,z,hA,hc,hf,hst⟩:=sp_stepO HS2.out HX2.out H.out.sl.c H.out.sl.fc hlt2
     have HST:=aq hst;rw [hA] at p2;have HA:=aq hA
     have i0:(0:Int)<=(k2:Int):=by omega
     have i1:(k2:Int) < (o.sl.counts.length:Int):=by omega
     clear hst hA;go_wp2
     go_roundw
     case rel=>exact⟨k2+1,by omega,by go_num,(HST.out _).1,(HST.out _).2⟩
     case measure=>simp [intOf];omega
    ·obtain rfl:k2=o.sl.counts.length:=by omega
     go_wp2;clear p2
     go_loopw [4] (SpOJ B U o a A w o.tb.ats.length) (fun i _=>o.tb.ats.length-(intOf i).toNat)
     case atStart=>exact⟨0,Nat.zero_le _,rfl,HS2.out,HX2.out⟩
     case round =>
      obtain⟨k3,hk3,rfl,hs,hx⟩:=hrel;have HS3:=aq hs;have HX3:=aq hx;clear hs hx HS2 HX2;have p3:=HX3.out.cells.c16
      by_cases hlt3:k3 < o.tb.ats.length
      ·obtain⟨b,off,z,hA,hc,hf,hst⟩:=sp_stepO HS3.out HX3.out H.out.a H.out.fa hlt3
       have HST:=aq hst;rw [hA] at p3;have HA:=aq hA
       have i0:(0:Int)<=(k3:Int):=by omega
       have i1:(k3:Int) < (o.tb.ats.length:Int):=by omega
       clear hst hA;go_wp2
       go_roundw
       case rel=>exact⟨k3+1,by omega,by go_num,(HST.out _).1,(HST.out _).2⟩
       case measure=>simp [intOf];omega
      ·obtain rfl:k3=o.tb.ats.length:=by omega
       go_wp2;clear p3
       go_loopw [5] (SpOJ B U o a A w o.tb.gens.length) (fun i _=>o.tb.gens.length-(intOf i).toNat)
       case atStart=>exact⟨0,Nat.zero_le _,rfl,HS3.out,HX3.out⟩
       case round =>
        obtain⟨k4,hk4,rfl,hs,hx⟩:=hrel;have HS4:=aq hs;have HX4:=aq hx;clear hs hx HS3 HX3;have p4:=HX4.out.cells.c15
        by_cases hlt4:k4 < o.tb.gens.length
        ·obtain⟨b,off,z,hA,hc,hf,hst⟩:=sp_stepO HS4.out HX4.out H.out.g H.out.fg hlt4
         have HST:=aq hst;rw [hA] at p4;have HA:=aq hA
         have i0:(0:Int)<=(k4:Int):=by omega
         have i1:(k4:Int) < (o.tb.gens.length:Int):=by omega
         clear hst hA;go_wp2
         go_roundw
         case rel=>exact⟨k4+1,by omega,by go_num,(HST.out _).1,(HST.out _).2⟩
         case measure=>simp [intOf];omega
        ·obtain rfl:k4=o.tb.gens.length:=by omega
         go_wp2;clear p4
         go_end0
         exact⟨rfl,HS4.out⟩
end Go.Proofs.YtpeckljoannolaaGreatDoor
