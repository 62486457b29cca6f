/- What the document's own answers of layer 15 (package shelfmarkref15) return: Places, linked. -/
import Derived.Test.YtpeckljoannolaaGreatDoorR9aOt
import Derived.Test.YtpeckljoannolaaGreatDoorS4aOt
import Derived.Test.YtpeckljoannolaaGreatDoorS15Ot
import Derived.Test.YtpeckljoannolaaGreatDoorTkOt
set_option linter.unusedVariables false
set_option linter.unusedSimpArgs false
set_option maxHeartbeats 4000000
set_option maxRecDepth 100000
namespace Go.Proofs.YtpeckljoannolaaGreatDoor
open Go.RowKit
theorem r15Places (s:Sl) (a:Ads) (w:World) (h:Held w s a) (hok:s.Ok) (hs:s.Short) (hm:s.May) :
  Calls Tryz.prog 91 #[slv s a] w fun e w'=>∃ A c,e=.returned (.slice A (Om.pl s).length c)/\Lst .i64 w' A (ints (Om.pl s))/\Below w.heap.size w w':=by
 have BX:=aq (Box.new w s a 29);have BB:=aq (fun o=>(Below.refl w.heap.size w).alloc (Nat.le_refl _) o);have C:=aq (fun o=>r2PlacesP a.w a.cw s.words 0 s.keys.length (w.alloc o) ((h.below (BB.out o)).words) hok.words (by have:=hs.words;omega) (by have:=hm.wlen;omega) (by omega));clear h hok hs hm;unfold slv
 go_enter Tryz.func91,Tryz.ntmps91
 obtain⟨_,c0,c1,c2,c3,c4,c5,_⟩:=BX.out;unfold slCells at C c1 c2
 go_wp2_with fail
 refine (C.out _).mono ?_;rintro e w1 ⟨A,c,rfl,hl,hb⟩;have HL:=aq hl;have B1:=aq ((BB.out _).trans (hb.mono (BB.out _).size));clear hl hb;go_wp2;go_ret;exact⟨A,c,rfl,HL.out,B1.out⟩
def LinkJ (s:Sl) (t:Ht) (w:World) (i:Value) (wr:World):Prop:=∃ k q:Nat,k<=(Om.pl s).length/\i=.int .i64 k/\wr=w.drewN q/\∀ j,j < k->Om.fineB s t ((Om.pl s).getD j 0)=true
theorem link_no {s:Sl} {t:Ht} {k:Nat} (hk:k < (Om.pl s).length) (h:Om.fineB s t ((Om.pl s).getD k 0)=false):Om.linkB s t=false:=by
 cases hl:Om.linkB s t
 ·rfl
 ·have hm:(Om.pl s).getD k 0∈Om.pl s:=by simp [List.getD,List.getElem?_eq_getElem hk]
  have:=(Om.link_iff.1 hl).2 _ hm;rw [h] at this
  cases this
theorem link_yes {s:Sl} {t:Ht} (hn:Hn.live t.ats=(Om.pl s).length) (h:∀ j,j < (Om.pl s).length->Om.fineB s t ((Om.pl s).getD j 0)=true):Om.linkB s t=true :=
 Om.link_iff.2 ⟨hn,fun i hi=>by
  obtain⟨j,hj,e⟩:=List.getElem_of_mem hi;have:=h j hj;rw [show (Om.pl s).getD j 0=i by simp [List.getD,List.getElem?_eq_getElem hj,e]] at this
  exact this⟩
theorem r15linked (s:Sl) (t:Ht) (a:Ads) (A:HAds) (w:World) (h:Held w s a) (hok:s.Ok) (hs:s.Short) (hm:s.May) (hh:HHeld w t A) (hM:Hn.May t) :
  Calls Tryz.prog 59 #[slv s a,hv t A] w fun e w'=>e=.returned (.bool (Om.linkB s t))/\Below w.heap.size w w':=by
 have BXS:=aq (fun o=>(Box.new w s a 29).below ((Below.refl _ _).alloc (Nat.le_refl _) o));have BXH:=aq (fun o=>HBox.new (w.alloc o) t A 31);have BB:=aq (fun o o'=>((Below.refl w.heap.size w).alloc (Nat.le_refl _) o).alloc (by simp) o');have CP:=aq (fun V (hb:Below w.heap.size w V)=>r15Places s a V (h.below hb) hok hs hm);have CL:=aq (fun V (hb:Below w.heap.size w V)=>r14Live t A V (hh.below hb));have HS:=aq h;have HH:=aq hh;have EL:=aq (show Hn.liveV t=((Hn.live t.ats:Nat):Int) by unfold Hn.liveV;rw [if_pos (Hn.chk_may.2 hM)]);have VL:=aq hm.vals;have k16:=hs.keys;have t16:=hM.most;have TL:=aq hM.len;have PN:=aq (fun i (hi:i∈Om.pl s)=>(Om.in_pl.1 hi).1);clear h hok hs hm hh hM;unfold slv at CP;unfold hv at CL;unfold slv hv
 go_enter Tryz.func59,Tryz.ntmps59
 go_upto_region 1 with (fail)
 obtain⟨W0,hW0⟩:∃ W,W=(w.alloc (.cells #[.int .i64 s.seg,.slice a.w s.words.length a.cw,.slice a.k s.keys.length a.ck,.slice a.v s.vals.length a.cv,.slice a.c s.counts.length a.cc,.int .u64 (s.laid:Int)] 29)).alloc (.cells #[.slice A.g t.gens.length A.cg,.slice A.a t.ats.length A.ca] 31):=⟨_,rfl⟩;have BS:=aq (show Box W0 w.heap.size s a by rw [hW0];exact BXS.out _);have BH:=aq (show HBox W0 (w.heap.size+1) t A by rw [hW0];have:=BXH.out (.cells #[.int .i64 s.seg,.slice a.w s.words.length a.cw,.slice a.k s.keys.length a.ck,.slice a.v s.vals.length a.cv,.slice a.c s.counts.length a.cc,.int .u64 (s.laid:Int)] 29);rw [World.size_alloc] at this;exact this);have B0:=aq (show Below w.heap.size w W0 by rw [hW0];exact BB.out _ _);rw [<-hW0];clear hW0 BXS BXH BB;obtain⟨_,c0,c1,c2,c3,c4,c5,_⟩:=BS.out
 go_wp2_with fail
 refine (CP.out W0 B0.out).mono ?_;rintro e w1 ⟨AP,cp,rfl,hl,hb⟩;replace BS:=aq (BS.out.below hb);replace BH:=aq (BH.out.below hb);replace B0:=aq (B0.out.trans (hb.mono B0.out.size));have HL:=aq hl;clear hl hb c0 c1 c2 c3 c4 c5 CP;obtain⟨_,p0,p1,_,_⟩:=BH.out
 go_wp2_with fail
 refine (CL.out w1 B0.out).mono ?_;rintro e w2 ⟨rfl,hb⟩;replace BS:=aq (BS.out.below hb);replace BH:=aq (BH.out.below hb);replace B0:=aq (B0.out.trans (hb.mono B0.out.size));replace HL:=aq (HL.out.below hb);rw [EL.out];clear hb p0 p1 CL;obtain⟨P,hP⟩:∃ P,Om.pl s=P:=⟨_,rfl⟩;have HP:=aq hP
 have P16:P.length<=65536:=by
  have h1:=Oc.places_length_le s.words 0 s.keys.length;have h2:(Om.pl s).length=(Oc.places s.words 0 s.keys.length).length:=rfl;rw [hP] at h2
  omega
 rw [hP] at HL ⊢;obtain⟨L,hL⟩:∃ L,Hn.live t.ats=L:=⟨_,rfl⟩;have HLV:=aq hL;rw [hL];clear hL hP
 by_cases hn:L=P.length
 ·have k1:((L:Int) != (P.length:Int))=false:=by simp;omega
  have HN:=aq hn;clear hn;go_wp2
  go_loopw [8] (LinkJ s t w2) (fun i _=>P.length-(intOf i).toNat)
  case atStart=>exact⟨0,0,Nat.zero_le _,rfl,rfl,fun j hj=>absurd hj (Nat.not_lt_zero _)⟩
  case round =>
   obtain⟨k,q,hk,rfl,rfl,ht⟩:=hrel;rw [HP.out] at hk;have HT:=aq ht;clear ht
   by_cases hlt:k < P.length
   ·obtain⟨b1,o1,hA1,_,c1⟩:=HL.out.numP hlt
    subst hA1;obtain⟨i,hi⟩:∃ i,P.getD k 0=i:=⟨_,rfl⟩;rw [hi] at c1;have hil:i < s.keys.length:=PN.out i (by rw [HP.out,<-hi];simp [List.getD,List.getElem?_eq_getElem hlt]);obtain⟨b2,o2,hA2,_,c2⟩:=(HS.out.below B0.out).keys.cell hil;obtain⟨b3,o3,hA3,_,c3⟩:=(HS.out.below B0.out).vals.cell (i:=i) (by rw [VL.out];exact hil);obtain⟨_,d0,d1,d2,d3,d4,d5,_⟩:=BS.out;obtain⟨_,p0,p1,_,_⟩:=BH.out;rw [hA2] at d2;rw [hA3] at d3;clear hA2 hA3;obtain⟨n,hn⟩:∃ n,s.keys.getD i 0=n:=⟨_,rfl⟩;obtain⟨v,hv'⟩:∃ v,s.vals.getD i 0=v:=⟨_,rfl⟩;rw [hn] at c2;rw [hv'] at c3;have EF:=aq (show Om.fineB s t i=(decide (v=0)&&decide (0<=n)&&decide (n < t.ats.length)&&decide (Hn.a t n.toNat=i)) by unfold Om.fineB Om.key;rw [hn,hv']);have NO:=aq (show Om.fineB s t i=false->Om.linkB s t=false from fun h=>link_no (k:=k) (by rw [HP.out];exact hlt) (by rw [HP.out,hi];exact h))
    have YES:=aq (show Om.fineB s t i=true->∀ j,j < k+1->Om.fineB s t ((Om.pl s).getD j 0)=true from fun h j hj=>by
     by_cases e:j=k
     ·rw [e,HP.out,hi];exact h
     ·exact HT.out j (by omega))
    have i2:(i:Int) < (s.keys.length:Int):=by omega
    have i3:(i:Int) < (s.vals.length:Int):=by have:=VL.out;omega
    clear hn hv' hi hil
    by_cases h0:v=0
    ·have k0:(v != 0)=false:=by simpa using h0
     have H0:=aq h0;clear h0
     by_cases h1:n < 0
     ·have k1:decide (n < 0)=true:=by simpa using h1
      have E:=aq (NO.out (by rw [EF.out,show decide (0<=n)=false from decide_eq_false (by omega)];simp));clear h1;go_wp2
      go_quiet (fail)
      go_wp2
      go_quiet (fail)
      go_wp2;go_ret;rw [E.out];exact⟨rfl,below_drewN (below_drewN (below_drewN B0.out _) _) _⟩
     ·have k1:decide (n < 0)=false:=by simpa using h1
      by_cases h2:n < t.ats.length
      ·have k2:decide (n ≥ (t.ats.length:Int))=false:=by simp;omega
       obtain⟨m,rfl⟩:∃ m:Nat,n=m:=⟨n.toNat,by omega⟩;obtain⟨b4,o4,hA4,_,c4⟩:=(HH.out.below B0.out).ats.cell (i:=m) (by omega);rw [hA4] at p1;clear hA4;obtain⟨x,hx⟩:∃ x,t.ats.getD m 0=x:=⟨_,rfl⟩;rw [hx] at c4;have HX:=aq (show Hn.a t (m:Int).toNat=x by rw [Int.toNat_natCast];exact hx)
       have i4:(m:Int) < (t.ats.length:Int):=by omega
       have i5:m < t.ats.length:=by omega
       clear hx h1 h2
       by_cases h3:x=(i:Int)
       ·have k3:(x != (i:Int))=false:=by simpa using h3
        have Y:=aq (YES.out (by rw [EF.out,HX.out,H0.out,h3];simp;omega));clear h3;go_wp2
        go_quiet (fail)
        go_wp2
        go_quiet (fail)
        go_wp2
        go_roundw
        case rel=>exact⟨k+1,_,by rw [HP.out];omega,by go_num,rfl,Y.out⟩
        case measure=>simp [intOf];omega
       ·have k3:(x != (i:Int))=true:=by simpa using h3
        have E:=aq (NO.out (by rw [EF.out,HX.out,decide_eq_false h3];simp));clear h3;go_wp2
        go_quiet (fail)
        go_wp2
        go_quiet (fail)
        go_wp2;go_ret;rw [E.out];exact⟨rfl,below_drewN (below_drewN (below_drewN B0.out _) _) _⟩
      ·have k2:decide (n ≥ (t.ats.length:Int))=true:=by simp;omega
       have E:=aq (NO.out (by rw [EF.out,decide_eq_false h2];simp));clear h1 h2;go_wp2
       go_quiet (fail)
       go_wp2
       go_quiet (fail)
       go_wp2;go_ret;rw [E.out];exact⟨rfl,below_drewN (below_drewN (below_drewN B0.out _) _) _⟩
    ·have k0:(v != 0)=true:=by simpa using h0
     have E:=aq (NO.out (by rw [EF.out,decide_eq_false h0];simp));clear h0;go_wp2
     go_quiet (fail)
     go_wp2
     go_quiet (fail)
     go_wp2;go_ret;rw [E.out];exact⟨rfl,below_drewN (below_drewN (below_drewN B0.out _) _) _⟩
   ·have E:=aq (show Om.linkB s t=true from link_yes (by rw [HP.out,HLV.out];exact HN.out) (fun j hj=>HT.out j (by rw [HP.out] at hj;omega)))
    go_wp2;go_ret;rw [E.out];exact⟨rfl,below_drewN B0.out _⟩
 ·have k1:((L:Int) != (P.length:Int))=true:=by simp;omega
  have E:=aq (show Om.linkB s t=false by unfold Om.linkB;rw [HP.out,HLV.out,decide_eq_false hn];rfl);clear hn;go_wp2;go_ret;rw [E.out];exact⟨rfl,B0.out⟩
end Go.Proofs.YtpeckljoannolaaGreatDoor
