/- What package handle's ways in and out do. -/
import Derived.Test.YtpeckljoannolaaGreatDoorS14Ot
import Derived.Test.YtpeckljoannolaaGreatDoorTkOt
set_option linter.unusedVariables false
set_option linter.unusedSimpArgs false
set_option maxHeartbeats 4000000
set_option maxRecDepth 100000
namespace Go.Proofs.YtpeckljoannolaaGreatDoor
open Go.RowKit
theorem is_case {t:Ht} (hM:Hn.May t) {n m:Int} (h1:0<=n) (h2:n < t.gens.length):Hn.isB t (n,m)=((Hn.a t n.toNat != -1)&&(Hn.g t n.toNat==m)):=by
 have hf:=(hM.fine n.toNat (by omega)).2.2.1;unfold Hn.isB
 dsimp only
 rw [decide_eq_true h1,decide_eq_true h2];rw [Bool.eq_iff_iff]
 simp
 omega
theorem hKnown (t:Ht) (A:HAds) (x:Int×Int) (w:World) (h:HHeld w t A) (hM:Hn.May t) :
  Calls Tryz.prog 76 #[hv t A,pv x] w fun e w'=>e=.returned (.bool (Hn.isB t x))/\Below w.heap.size w w':=by
 obtain⟨n,m⟩:=x;have HX:=aq (fun o=>(HBox.new w t A 31).below ((Below.refl _ _).alloc (Nat.le_refl _) o));have HP:=aq (fun o=>PBox.new (w.alloc o) (n,m) 39);have BB0:=aq (fun o o'=>((Below.refl w.heap.size w).alloc (Nat.le_refl _) o).alloc (by simp) o');unfold hv pv;have HH:=aq h;have hl:=hM.len;have h16:=hM.most;have HM:=aq hM;clear h hM
 dsimp only
 by_cases h1:n < 0
 ·have k1:decide (n < 0)=true:=by simpa using h1
  have E:=aq (show Hn.isB t (n,m)=false by unfold Hn.isB;rw [decide_eq_false (by dsimp only;omega)];simp);clear h1 hl
  go_enter Tryz.func76,Tryz.ntmps76
  go_wp2;go_ret;rw [E.out];exact⟨rfl,BB0.out _ _⟩
 ·have k1:decide (n < 0)=false:=by simpa using h1
  by_cases h2:n < t.gens.length
  ·have k2:decide (n ≥ (t.gens.length:Int))=false:=by simp;omega
   have E:=aq (is_case (m:=m) HM.out (by omega) h2);obtain⟨k,rfl⟩:∃ k:Nat,n=k:=⟨n.toNat,by omega⟩;obtain⟨b1,o1,hA1,hl1,c1⟩:=HH.out.gens.cell (i:=k) (by omega);obtain⟨b2,o2,hA2,hl2,c2⟩:=HH.out.ats.cell (i:=k) (by omega);obtain⟨ag,aa,cg,ca⟩:=A
   dsimp only at hA1 hA2
   subst hA1 hA2;rw [Int.toNat_natCast] at E;replace c1:w.cell? ⟨b1,o1+k,none⟩=some (.int .i64 (Hn.g t k)):=c1;replace c2:w.cell? ⟨b2,o2+k,none⟩=some (.int .i64 (Hn.a t k)):=c2;obtain⟨g,hg⟩:∃ g,Hn.g t k=g:=⟨_,rfl⟩;obtain⟨a,ha⟩:∃ a,Hn.a t k=a:=⟨_,rfl⟩;rw [hg] at c1;rw [ha] at c2;rw [hg,ha] at E
   have i1:(k:Int) < (t.gens.length:Int):=by omega
   have i2:(k:Int) < (t.ats.length:Int):=by omega
   clear hg ha h1 h2 hl
   go_enter Tryz.func76,Tryz.ntmps76
   go_upto_region 1 with (fail)
   obtain⟨W1,hW1⟩:∃ W,W=(w.alloc (.cells #[.slice (some ⟨b1,o1,none⟩) t.gens.length cg,.slice (some ⟨b2,o2,none⟩) t.ats.length ca] 31)).alloc (.cells #[.int .i64 (k:Int),.int .i64 m] 39):=⟨_,rfl⟩;have BX:=aq (show HBox W1 w.heap.size t ⟨some ⟨b1,o1,none⟩,some ⟨b2,o2,none⟩,cg,ca⟩ by rw [hW1];exact HX.out _);have BP:=aq (show PBox W1 (w.heap.size+1) ((k:Int),m) by rw [hW1];have:=HP.out (.cells #[.slice (some ⟨b1,o1,none⟩) t.gens.length cg,.slice (some ⟨b2,o2,none⟩) t.ats.length ca] 31);rw [World.size_alloc] at this;exact this);have BB:=aq (show Below w.heap.size w W1 by rw [hW1];exact BB0.out _ _);replace c1:=(BB.out.cell (p:=⟨b1,o1+k,none⟩) hl1).trans c1;replace c2:=(BB.out.cell (p:=⟨b2,o2+k,none⟩) hl2).trans c2;rw [<-hW1];clear hW1 HX HP BB0;obtain⟨_,p0,p1,_,_⟩:=BX.out;obtain⟨_,r0,r1,_,_⟩:=BP.out
   dsimp only at p0 p1 r0 r1
   by_cases h3:a=-1
   ·have k3:(a != -1)=false:=by simpa using h3
    clear h3;go_wp2
    go_quiet (fail)
    go_wp2;go_ret;rw [E.out,k3];exact⟨rfl,below_drewN BB.out _⟩
   ·have k3:(a != -1)=true:=by simpa using h3
    clear h3;go_wp2
    go_quiet (fail)
    go_wp2;go_ret;rw [E.out,k3];exact⟨rfl,below_drewN BB.out _⟩
  ·have k2:decide (n ≥ (t.gens.length:Int))=true:=by simp;omega
   have E:=aq (show Hn.isB t (n,m)=false by unfold Hn.isB;rw [show decide ((n,m).1 < (t.gens.length:Int))=false from decide_eq_false (by dsimp only;omega)];simp);clear h1 h2 hl
   go_enter Tryz.func76,Tryz.ntmps76
   go_wp2;go_ret;rw [E.out];exact⟨rfl,BB0.out _ _⟩
theorem hFind (t:Ht) (A:HAds) (x:Int×Int) (w:World) (h:HHeld w t A) (ok:t.Ok) (hs:t.Short) (h1:In64 x.1) (h2:In64 x.2) :
  Calls Tryz.prog 41 #[hv t A,pv x] w fun e w'=>e=.returned (.tuple #[.int .i64 (Hn.findV t x),.int .i64 (Hn.findE t x)])/\Below w.heap.size w w':=by
 obtain⟨n,m⟩:=x;have HB:=aq (fun x y=>((Below.refl w.heap.size w).alloc (Nat.le_refl _) x).alloc (by simp) y);have HX:=aq (fun x=>(HBox.new w t A 31).below ((Below.refl _ _).alloc (Nat.le_refl _) x));have HP:=aq (fun x=>PBox.new (w.alloc x) (n,m) 39);have CC:=aq (fun V (hb:Below w.heap.size w V)=>hCheck t A V (h.below hb) ok hs);have CK:=aq (fun V (hb:Below w.heap.size w V) hM=>hKnown t A (n,m) V (h.below hb) hM);have HH:=aq h;clear h h1 h2 ok hs;unfold hv pv at CK;unfold hv at CC;unfold hv pv
 dsimp only at CK ⊢
 go_enter Tryz.func41,Tryz.ntmps41
 go_upto_region 1 with (fail)
 obtain⟨W0,hW0⟩:∃ W,W=(w.alloc (.cells #[.slice A.g t.gens.length A.cg,.slice A.a t.ats.length A.ca] 31)).alloc (.cells #[.int .i64 n,.int .i64 m] 39):=⟨_,rfl⟩;have BX:=aq (show HBox W0 w.heap.size t A by rw [hW0];exact HX.out _);have BP:=aq (show PBox W0 (w.heap.size+1) (n,m) by rw [hW0];have:=HP.out (.cells #[.slice A.g t.gens.length A.cg,.slice A.a t.ats.length A.ca] 31);rw [World.size_alloc] at this;exact this);have BB:=aq (show Below w.heap.size w W0 by rw [hW0];exact HB.out _ _);rw [<-hW0];clear hW0 HB HX HP;obtain⟨_,p0,p1,_,_⟩:=BX.out
 go_wp2_with fail
 refine (CC.out W0 BB.out).mono ?_;rintro e w1 ⟨rfl,hb⟩;replace BX:=aq (BX.out.below hb);replace BP:=aq (BP.out.below hb);replace BB:=aq (BB.out.trans (hb.mono BB.out.size));clear hb p0 p1 CC
 by_cases hc:Hn.chkE t=0
 ·have HM:=aq (Hn.chk_may.1 hc)
  have k1:(Hn.chkE t != 0)=false:=by simpa using hc
  have HC:=aq hc;clear hc;obtain⟨_,p0,p1,_,_⟩:=BX.out;obtain⟨_,r0,r1,_,_⟩:=BP.out
  dsimp only at r0 r1
  go_wp2_with fail
  refine (CK.out w1 BB.out HM.out).mono ?_;rintro e w2 ⟨rfl,hb⟩;replace BX:=aq (BX.out.below hb);replace BP:=aq (BP.out.below hb);replace BB:=aq (BB.out.trans (hb.mono BB.out.size));clear hb p0 p1 r0 r1 CK k1
  cases hi:Hn.isB t (n,m)
  ·have EE:=aq (show Hn.findE t (n,m)=140 by unfold Hn.findE;rw [HC.out,if_pos rfl,hi,if_neg (by simp)])
   have VV:=aq (show Hn.findV t (n,m)=0 by unfold Hn.findV;rw [EE.out,if_neg (by omega)]);go_wp2;go_ret2;rw [EE.out,VV.out];exact⟨rfl,BB.out⟩
  ·have EE:=aq (show Hn.findE t (n,m)=0 by unfold Hn.findE;rw [HC.out,if_pos rfl,hi,if_pos rfl])
   have VV:=aq (show Hn.findV t (n,m)=Hn.a t n.toNat by unfold Hn.findV;rw [EE.out,if_pos rfl]);obtain⟨i0,i1,_,_⟩:=(Hn.is_iff t (n,m)).1 hi
   dsimp only at i0 i1
   clear hi;obtain⟨k,rfl⟩:∃ k:Nat,n=k:=⟨n.toNat,by omega⟩;rw [Int.toNat_natCast] at VV
   have i2:(k:Int) < (t.ats.length:Int):=by have:=HM.out.len;omega
   obtain⟨b2,o2,hA2,hl2,c2⟩:=(HH.out.below BB.out).ats.cell (i:=k) (by have:=HM.out.len;omega);replace c2:w2.cell? ⟨b2,o2+k,none⟩=some (.int .i64 (Hn.a t k)):=c2;obtain⟨a,ha⟩:∃ a,Hn.a t k=a:=⟨_,rfl⟩;rw [ha] at c2 VV;clear ha;obtain⟨_,p0,p1,_,_⟩:=BX.out;obtain⟨_,r0,r1,_,_⟩:=BP.out;rw [hA2] at p1
   dsimp only at r0 r1
   go_wp2;go_ret2;rw [EE.out,VV.out];exact⟨rfl,BB.out⟩
 ·have k1:(Hn.chkE t != 0)=true:=by simpa using hc
  have EE:=aq (show Hn.findE t (n,m)=Hn.chkE t by unfold Hn.findE;rw [if_neg hc]);have VV:=aq (show Hn.findV t (n,m)=0 by unfold Hn.findV;rw [EE.out,if_neg hc]);clear hc;go_wp2;go_ret2;rw [EE.out,VV.out];exact⟨rfl,BB.out⟩
end Go.Proofs.YtpeckljoannolaaGreatDoor
