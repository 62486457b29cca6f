/- What package handle's ways in and out do. -/
import Derived.Test.YtpeckljoannolaaGreatDoorS14Oc
import Derived.Test.YtpeckljoannolaaGreatDoorTkOc
import Derived.Test.YtpeckljoannolaaGreatDoorHnGOc
set_option linter.unusedVariables false
set_option linter.unusedSimpArgs false
set_option maxHeartbeats 8000000
set_option maxRecDepth 100000
namespace Go.Proofs.YtpeckljoannolaaGreatDoor
open Go.RowKit
theorem is_case {t:Ht} (hM:Hn.May t) {n m:Int} (h1:0<=n) (h2:n < t.gens.length):Hn.isB t (n,m)=((Hn.a t n.toNat != -1)&&(Hn.g t n.toNat==m)):=by
 have hf:=(hM.fine n.toNat (by omega)).2.2.1;unfold Hn.isB
 dsimp only
 rw [decide_eq_true h1,decide_eq_true h2];rw [Bool.eq_iff_iff]
 simp
 omega
theorem hKnown (t:Ht) (A:HAds) (x:Int×Int) (w:World) (h:HHeld w t A) (hM:Hn.May t) :
  Calls Tryz.prog 76 #[hv t A,pv x] w fun e w'=>e=.returned (.bool (Hn.isB t x))/\Below w.heap.size w w':=by
 obtain⟨n,m⟩:=x;have HX:=aq (fun o=>(HBox.new w t A 31).below ((Below.refl _ _).alloc (Nat.le_refl _) o));have HP:=aq (fun o=>PBox.new (w.alloc o) (n,m) 39);have BB0:=aq (fun o o'=>((Below.refl w.heap.size w).alloc (Nat.le_refl _) o).alloc (by simp) o');unfold hv pv;have HH:=aq h;have hl:=hM.len;have h16:=hM.most;have HM:=aq hM;clear h hM
 dsimp only
 by_cases h1:n < 0
 ·have k1:decide (n < 0)=true:=by simpa using h1
  have E:=aq (show Hn.isB t (n,m)=false by unfold Hn.isB;rw [decide_eq_false (by dsimp only;omega)];simp);clear h1 hl
  go_enter Tryz.func76,Tryz.ntmps76
  go_wp2;go_ret;rw [E.out];exact⟨rfl,BB0.out _ _⟩
 ·have k1:decide (n < 0)=false:=by simpa using h1
  by_cases h2:n < t.gens.length
  ·have k2:decide (n ≥ (t.gens.length:Int))=false:=by simp;omega
   have E:=aq (is_case (m:=m) HM.out (by omega) h2);obtain⟨k,rfl⟩:∃ k:Nat,n=k:=⟨n.toNat,by omega⟩;obtain⟨b1,o1,hA1,hl1,c1⟩:=HH.out.gens.cell (i:=k) (by omega);obtain⟨b2,o2,hA2,hl2,c2⟩:=HH.out.ats.cell (i:=k) (by omega);obtain⟨ag,aa,cg,ca⟩:=A
   dsimp only at hA1 hA2
   subst hA1 hA2;rw [Int.toNat_natCast] at E;replace c1:w.cell? ⟨b1,o1+k,none⟩=some (.int .i64 (Hn.g t k)):=c1;replace c2:w.cell? ⟨b2,o2+k,none⟩=some (.int .i64 (Hn.a t k)):=c2;obtain⟨g,hg⟩:∃ g,Hn.g t k=g:=⟨_,rfl⟩;obtain⟨a,ha⟩:∃ a,Hn.a t k=a:=⟨_,rfl⟩;rw [hg] at c1;rw [ha] at c2;rw [hg,ha] at E
   have i1:(k:Int) < (t.gens.length:Int):=by omega
   have i2:(k:Int) < (t.ats.length:Int):=by omega
   clear hg ha h1 h2 hl
   go_enter Tryz.func76,Tryz.ntmps76
   go_upto_region 1 with (fail)
   obtain⟨W1,hW1⟩:∃ W,W=(w.alloc (.cells #[.slice (some ⟨b1,o1,none⟩) t.gens.length cg,.slice (some ⟨b2,o2,none⟩) t.ats.length ca] 31)).alloc (.cells #[.int .i64 (k:Int),.int .i64 m] 39):=⟨_,rfl⟩;have BX:=aq (show HBox W1 w.heap.size t ⟨some ⟨b1,o1,none⟩,some ⟨b2,o2,none⟩,cg,ca⟩ by rw [hW1];exact HX.out _);have BP:=aq (show PBox W1 (w.heap.size+1) ((k:Int),m) by rw [hW1];have:=HP.out (.cells #[.slice (some ⟨b1,o1,none⟩) t.gens.length cg,.slice (some ⟨b2,o2,none⟩) t.ats.length ca] 31);rw [World.size_alloc] at this;exact this);have BB:=aq (show Below w.heap.size w W1 by rw [hW1];exact BB0.out _ _);replace c1:=(BB.out.cell (p:=⟨b1,o1+k,none⟩) hl1).trans c1;replace c2:=(BB.out.cell (p:=⟨b2,o2+k,none⟩) hl2).trans c2;rw [<-hW1];clear hW1 HX HP BB0;obtain⟨_,p0,p1,_,_⟩:=BX.out;obtain⟨_,r0,r1,_,_⟩:=BP.out
   dsimp only at p0 p1 r0 r1
   by_cases h3:a=-1
   ·have k3:(a != -1)=false:=by simpa using h3
    clear h3;go_wp2
    go_quiet (fail)
    go_wp2;go_ret;rw [E.out,k3];exact⟨rfl,below_drewN BB.out _⟩
   ·have k3:(a != -1)=true:=by simpa using h3
    clear h3;go_wp2
    go_quiet (fail)
    go_wp2;go_ret;rw [E.out,k3];exact⟨rfl,below_drewN BB.out _⟩
  ·have k2:decide (n ≥ (t.gens.length:Int))=true:=by simp;omega
   have E:=aq (show Hn.isB t (n,m)=false by unfold Hn.isB;rw [show decide ((n,m).1 < (t.gens.length:Int))=false from decide_eq_false (by dsimp only;omega)];simp);clear h1 h2 hl
   go_enter Tryz.func76,Tryz.ntmps76
   go_wp2;go_ret;rw [E.out];exact⟨rfl,BB0.out _ _⟩
def placeE (t:Ht) (p:Int):Int:=if Hn.chkE t=0 then (if p < 0 then 2 else 0) else Hn.chkE t
theorem hPlace (t:Ht) (A:HAds) (p:Int) (w:World) (h:HHeld w t A) (ok:t.Ok) (hs:t.Short) :
  Calls Tryz.prog 114 #[hv t A,.int .i64 p] w fun e w'=>e=.returned (.int .i64 (placeE t p))/\Below w.heap.size w w':=by
 have HX:=aq (HBox.new w t A 31);have BB:=aq (fun o=>(Below.refl w.heap.size w).alloc (Nat.le_refl _) o);have CC:=aq (fun V (hb:Below w.heap.size w V)=>hCheck t A V (h.below hb) ok hs);clear h ok hs;unfold hCells at HX;unfold hv at CC ⊢
 go_enter Tryz.func114,Tryz.ntmps114
 go_wp2_with fail
 refine (CC.out _ (BB.out _)).mono ?_;rintro e w1 ⟨rfl,hb⟩;have B1:=aq ((BB.out _).trans (hb.mono (BB.out _).size));clear hb CC HX BB
 by_cases hc:Hn.chkE t=0
 ·have k1:(Hn.chkE t != 0)=false:=by simpa using hc
  by_cases hp:p < 0
  ·have k2:decide (p < 0)=true:=by simpa using hp
   have E:=aq (show placeE t p=2 by unfold placeE;rw [if_pos hc,if_pos hp]);clear hc hp;go_wp2;go_ret;rw [E.out];exact⟨rfl,B1.out⟩
  ·have k2:decide (p < 0)=false:=by simpa using hp
   have E:=aq (show placeE t p=0 by unfold placeE;rw [if_pos hc,if_neg hp]);clear hc hp;go_wp2;go_ret;rw [E.out];exact⟨rfl,B1.out⟩
 ·have k1:(Hn.chkE t != 0)=true:=by simpa using hc
  have E:=aq (show placeE t p=Hn.chkE t by unfold placeE;rw [if_neg hc]);clear hc;go_wp2;go_ret;rw [E.out];exact⟨rfl,B1.out⟩
theorem hFind (t:Ht) (A:HAds) (x:Int×Int) (w:World) (h:HHeld w t A) (ok:t.Ok) (hs:t.Short) (h1:In64 x.1) (h2:In64 x.2) :
  Calls Tryz.prog 41 #[hv t A,pv x] w fun e w'=>e=.returned (.tuple #[.int .i64 (Hn.findV t x),.int .i64 (Hn.findE t x)])/\Below w.heap.size w w':=by
 obtain⟨n,m⟩:=x;have HB:=aq (fun x y=>((Below.refl w.heap.size w).alloc (Nat.le_refl _) x).alloc (by simp) y);have HX:=aq (fun x=>(HBox.new w t A 31).below ((Below.refl _ _).alloc (Nat.le_refl _) x));have HP:=aq (fun x=>PBox.new (w.alloc x) (n,m) 39);have CC:=aq (fun V (hb:Below w.heap.size w V)=>hCheck t A V (h.below hb) ok hs);have CK:=aq (fun V (hb:Below w.heap.size w V) hM=>hKnown t A (n,m) V (h.below hb) hM);have HH:=aq h;clear h h1 h2 ok hs;unfold hv pv at CK;unfold hv at CC;unfold hv pv
 dsimp only at CK ⊢
 go_enter Tryz.func41,Tryz.ntmps41
 go_upto_region 1 with (fail)
 obtain⟨W0,hW0⟩:∃ W,W=(w.alloc (.cells #[.slice A.g t.gens.length A.cg,.slice A.a t.ats.length A.ca] 31)).alloc (.cells #[.int .i64 n,.int .i64 m] 39):=⟨_,rfl⟩;have BX:=aq (show HBox W0 w.heap.size t A by rw [hW0];exact HX.out _);have BP:=aq (show PBox W0 (w.heap.size+1) (n,m) by rw [hW0];have:=HP.out (.cells #[.slice A.g t.gens.length A.cg,.slice A.a t.ats.length A.ca] 31);rw [World.size_alloc] at this;exact this);have BB:=aq (show Below w.heap.size w W0 by rw [hW0];exact HB.out _ _);rw [<-hW0];clear hW0 HB HX HP;obtain⟨_,p0,p1,_,_⟩:=BX.out
 go_wp2_with fail
 refine (CC.out W0 BB.out).mono ?_;rintro e w1 ⟨rfl,hb⟩;replace BX:=aq (BX.out.below hb);replace BP:=aq (BP.out.below hb);replace BB:=aq (BB.out.trans (hb.mono BB.out.size));clear hb p0 p1 CC
 by_cases hc:Hn.chkE t=0
 ·have HM:=aq (Hn.chk_may.1 hc)
  have k1:(Hn.chkE t != 0)=false:=by simpa using hc
  have HC:=aq hc;clear hc;obtain⟨_,p0,p1,_,_⟩:=BX.out;obtain⟨_,r0,r1,_,_⟩:=BP.out
  dsimp only at r0 r1
  go_wp2_with fail
  refine (CK.out w1 BB.out HM.out).mono ?_;rintro e w2 ⟨rfl,hb⟩;replace BX:=aq (BX.out.below hb);replace BP:=aq (BP.out.below hb);replace BB:=aq (BB.out.trans (hb.mono BB.out.size));clear hb p0 p1 r0 r1 CK k1
  cases hi:Hn.isB t (n,m)
  ·have EE:=aq (show Hn.findE t (n,m)=140 by unfold Hn.findE;rw [HC.out,if_pos rfl,hi,if_neg (by simp)])
   have VV:=aq (show Hn.findV t (n,m)=0 by unfold Hn.findV;rw [EE.out,if_neg (by omega)]);go_wp2;go_ret2;rw [EE.out,VV.out];exact⟨rfl,BB.out⟩
  ·have EE:=aq (show Hn.findE t (n,m)=0 by unfold Hn.findE;rw [HC.out,if_pos rfl,hi,if_pos rfl])
   have VV:=aq (show Hn.findV t (n,m)=Hn.a t n.toNat by unfold Hn.findV;rw [EE.out,if_pos rfl]);obtain⟨i0,i1,_,_⟩:=(Hn.is_iff t (n,m)).1 hi
   dsimp only at i0 i1
   clear hi;obtain⟨k,rfl⟩:∃ k:Nat,n=k:=⟨n.toNat,by omega⟩;rw [Int.toNat_natCast] at VV
   have i2:(k:Int) < (t.ats.length:Int):=by have:=HM.out.len;omega
   obtain⟨b2,o2,hA2,hl2,c2⟩:=(HH.out.below BB.out).ats.cell (i:=k) (by have:=HM.out.len;omega);replace c2:w2.cell? ⟨b2,o2+k,none⟩=some (.int .i64 (Hn.a t k)):=c2;obtain⟨a,ha⟩:∃ a,Hn.a t k=a:=⟨_,rfl⟩;rw [ha] at c2 VV;clear ha;obtain⟨_,p0,p1,_,_⟩:=BX.out;obtain⟨_,r0,r1,_,_⟩:=BP.out;rw [hA2] at p1
   dsimp only at r0 r1
   go_wp2;go_ret2;rw [EE.out,VV.out];exact⟨rfl,BB.out⟩
 ·have k1:(Hn.chkE t != 0)=true:=by simpa using hc
  have EE:=aq (show Hn.findE t (n,m)=Hn.chkE t by unfold Hn.findE;rw [if_neg hc]);have VV:=aq (show Hn.findV t (n,m)=0 by unfold Hn.findV;rw [EE.out,if_neg hc]);clear hc;go_wp2;go_ret2;rw [EE.out,VV.out];exact⟨rfl,BB.out⟩
theorem make_same {t:Ht} {p:Int}:placeE t p=0->Hn.chkE t=0/\¬ p < 0:=fun h=>by
 unfold placeE at h
 by_cases h0:Hn.chkE t=0
 ·rw [if_pos h0] at h
  refine⟨h0,fun hp=>?_⟩;rw [if_pos hp] at h
  cases h
 ·rw [if_neg h0] at h;exact absurd h h0
theorem make_not {t:Ht} {p:Int} (h:¬ placeE t p=0):Hn.makeE t p=placeE t p:=by
 unfold Hn.makeE placeE;unfold placeE at h
 by_cases h0:Hn.chkE t=0
 ·rw [if_pos h0,if_pos h0]
  rw [if_pos h0] at h
  by_cases h3:p < 0
  ·rw [if_pos h3,if_pos h3]
  ·rw [if_neg h3] at h;exact absurd rfl h
 ·rw [if_neg h0,if_neg h0]
theorem full_of {t:Ht} (hM:Hn.May t):Hn.fullB t=decide (Hn.free t=65536):=by
 have h1:=Hn.free_le t;have h2:=hM.most;unfold Hn.fullB;rw [Bool.eq_iff_iff]
 simp
 omega
theorem hMake (t:Ht) (A:HAds) (p:Int) (w:World) (h:HHeld w t A) (ok:t.Ok) (hs:t.Short) (hp:In64 p) :
  Calls Tryz.prog 70 #[hv t A,.int .i64 p] w (HAns3 (Hn.makeV t p) (Hn.makeH t p) (Hn.makeE t p) w):=by
 have HB:=aq (fun x y z=>(((Below.refl w.heap.size w).alloc (Nat.le_refl _) x).alloc (by simp) y).alloc (by simp;omega) z);have HX:=aq (fun x y=>((HBox.new w t A 31).below ((Below.refl _ _).alloc (Nat.le_refl _) x)).below ((Below.refl _ _).alloc (Nat.le_refl _) y));have HY:=aq (fun x y=>(HBox.new (w.alloc x) Ht.zero hNone 31).below ((Below.refl _ _).alloc (Nat.le_refl _) y));have HZ:=aq (fun x y=>PBox.new ((w.alloc x).alloc y) (0,0) 39);have CC:=aq (fun V (hb:Below w.heap.size w V)=>hPlace t A p V (h.below hb) ok hs);have CN:=aq (fun V (hb:Below w.heap.size w V) hM=>hNext t A V (h.below hb) hM);have CT:=aq (fun V (hb:Below w.heap.size w V)=>hCopied t A V (h.below hb) hs);clear h ok hs hp;unfold hv at CC CT CN;unfold hv
 go_enter Tryz.func70,Tryz.ntmps70
 go_upto_region 1 with (fail)
 obtain⟨W0,hW0⟩:∃ W,W=((w.alloc (.cells #[.slice A.g t.gens.length A.cg,.slice A.a t.ats.length A.ca] 31)).alloc (.cells #[.slice none 0 0,.slice none 0 0] 31)).alloc (.cells #[.int .i64 0,.int .i64 0] 39):=⟨_,rfl⟩;have BX:=aq (show HBox W0 w.heap.size t A by rw [hW0];exact HX.out _ _);have BR:=aq (show HBox W0 (w.heap.size+1) Ht.zero hNone by rw [hW0];have:=HY.out (.cells #[.slice A.g t.gens.length A.cg,.slice A.a t.ats.length A.ca] 31) (.cells #[.int .i64 0,.int .i64 0] 39);rw [World.size_alloc] at this;exact this);have BH:=aq (show PBox W0 (w.heap.size+1+1) (0,0) by rw [hW0];have:=HZ.out (.cells #[.slice A.g t.gens.length A.cg,.slice A.a t.ats.length A.ca] 31) (.cells #[.slice none 0 0,.slice none 0 0] 31);rw [World.size_alloc,World.size_alloc] at this;exact this);have BB:=aq (show Below w.heap.size w W0 by rw [hW0];exact HB.out _ _ _)
 have z0:w.heap.size+3<=W0.heap.size:=by rw [hW0];simp
 rw [<-hW0];clear hW0 HB HX HY HZ;obtain⟨_,p0,p1,_,_⟩:=BX.out
 go_wp2_with fail
 refine (CC.out W0 BB.out).mono ?_;rintro e w1 ⟨rfl,hb⟩;have z1:W0.heap.size<=w1.heap.size:=hb.size;replace BX:=aq (BX.out.below hb);replace BR:=aq (BR.out.below hb);replace BH:=aq (BH.out.below hb);replace BB:=aq (BB.out.trans (hb.mono BB.out.size));clear hb p0 p1 CC
 by_cases hc:placeE t p=0
 ·have k1:(placeE t p != 0)=false:=by simpa using hc
  obtain⟨hc0,hpp⟩:=make_same hc;have HM:=aq (Hn.chk_may.1 hc0);have EM:=aq (show Hn.makeE t p=if Hn.fullB t=true then 9 else 0 by unfold Hn.makeE;rw [if_pos hc0,if_neg hpp]);clear hc hc0 hpp;obtain⟨_,p0,p1,_,_⟩:=BX.out
  go_wp2_with fail
  refine (CN.out w1 BB.out HM.out).mono ?_;rintro e w2 ⟨rfl,hb⟩;have z2:w1.heap.size<=w2.heap.size:=hb.size;replace BX:=aq (BX.out.below hb);replace BR:=aq (BR.out.below hb);replace BH:=aq (BH.out.below hb);replace BB:=aq (BB.out.trans (hb.mono BB.out.size));clear hb p0 p1 CN k1;have HF:=aq (full_of HM.out)
  by_cases hf:Hn.free t=65536
  ·have FU:=aq (show Hn.fullB t=true by rw [HF.out];exact decide_eq_true hf)
   have EE:=aq (show Hn.makeE t p=9 by rw [EM.out,FU.out,if_pos rfl]);have VV:=aq (show Hn.makeV t p=Ht.zero by unfold Hn.makeV;rw [EE.out,if_neg (by omega)]);have VH:=aq (show Hn.makeH t p=(0,0) by unfold Hn.makeH;rw [EE.out,if_neg (by omega)])
   have k2:(((Hn.free t:Nat):Int)==65536)=true:=by simp;omega
   clear hf EM HF CT;obtain⟨_,q0,q1,qf0,qf1⟩:=BR.out;obtain⟨_,r0,r1,rf0,rf1⟩:=BH.out
   dsimp only [Ht.zero,hNone,List.length_nil] at q0 q1
   dsimp only at r0 r1
   go_wp2;obtain⟨U,hU⟩:∃ U,U=wput2 (wput2 w2 (w.heap.size+1) (.slice none 0 0) (.slice none 0 0)) (w.heap.size+1+1) (.int .i64 0) (.int .i64 0):=⟨_,rfl⟩;have BR3:=aq (show HBox U (w.heap.size+1) Ht.zero hNone by rw [hU];exact (BR.out.put2 Ht.zero hNone).put2o (by omega) _ _);have BH3:=aq (show PBox U (w.heap.size+1+1) (0,0) by rw [hU];exact (BH.out.put2o (by omega) _ _).put2 (0,0));have BB3:=aq (show Below w.heap.size w U by rw [hU];exact below_put2 (below_put2 BB.out (by omega) _ _) (by omega) _ _);unfold wput2 at hU;rw [<-hU];clear hU;obtain⟨_,s0,s1,_,_⟩:=BR3.out;obtain⟨_,v0,v1,_,_⟩:=BH3.out
   dsimp only at v0 v1
   dsimp only [Ht.zero,hNone,List.length_nil] at s0 s1
   refine bodyPost_ret (v:=.tuple #[hv Ht.zero hNone,pv (0,0),.int .i64 (9)]) (by simp [results,Tryz.results70,go_sem,hv,pv,Ht.zero,hNone,s0,s1,v0,v1]) rfl (by unfold HAns3;rw [VV.out,EE.out,VH.out];exact⟨_,rfl,own_zero _ _,BB3.out⟩)
  ·have FU:=aq (show Hn.fullB t=false by rw [HF.out];exact decide_eq_false hf)
   have EE:=aq (show Hn.makeE t p=0 by rw [EM.out,FU.out,if_neg (by simp)]);have VV:=aq (show Hn.makeV t p=Hn.given t p by unfold Hn.makeV;rw [EE.out,if_pos rfl]);have VH:=aq (show Hn.makeH t p=Hn.hnd t by unfold Hn.makeH;rw [EE.out,if_pos rfl])
   have k2:(((Hn.free t:Nat):Int)==65536)=false:=by simp;omega
   obtain⟨k,hk⟩:∃ k,Hn.free t=k:=⟨_,rfl⟩;have CG:=aq (fun A1 B V (own:HRows 3 V B t A1) hB=>hGive t A1 p B V own hB HM.out FU.out);unfold hv at CG;rw [hk] at CG k2 ⊢;clear hf hk EM HF
   go_upto_region 7 with (fail)
   clear k2;obtain⟨_,p0,p1,_,_⟩:=BX.out
   go_wp2_with fail
   refine (CT.out w2 BB.out).mono ?_;rintro e w3 ⟨A1,rfl,own,hb⟩;have z3:w2.heap.size<=w3.heap.size:=hb.size;have OR:=aq own;replace BR:=aq (BR.out.below hb);replace BH:=aq (BH.out.below hb);replace BB:=aq (BB.out.trans (hb.mono BB.out.size));clear own hb p0 p1 CT BX;unfold hv
   go_wp2_with fail
   refine (CG.out A1 w2.heap.size w3 OR.out z3).mono ?_;rintro e w4 ⟨A2,rfl,own,hb,_,_⟩;have z4:w3.heap.size<=w4.heap.size:=hb.size;have OW:=aq (own.lower (show w.heap.size+3<=w2.heap.size by omega));replace BR:=aq (BR.out.low (by omega) hb);replace BH:=aq (BH.out.lowH (by omega) hb);replace BB:=aq (BB.out.trans (hb.mono (by omega)));clear own hb OR CG;unfold hv pv
   go_upto_region 8 with (fail)
   obtain⟨W5,hW5⟩:∃ W,W=(w4.alloc (.cells #[.slice A2.g (Hn.given t p).gens.length A2.cg,.slice A2.a (Hn.given t p).ats.length A2.ca] 31)).alloc (.cells #[.int .i64 (Hn.hnd t).1,.int .i64 (Hn.hnd t).2] 39):=⟨_,rfl⟩
   have hb:Below w4.heap.size w4 W5:=by rw [hW5];exact ((Below.refl _ _).alloc (Nat.le_refl _) _).alloc (by simp) _
   have z5:W5.heap.size=w4.heap.size+2:=by rw [hW5];simp
   have BT:=show HBox W5 w4.heap.size (Hn.given t p) A2 by rw [hW5];exact (HBox.new w4 (Hn.given t p) A2 31).below ((Below.refl _ _).alloc (Nat.le_refl _) _)
   have BN:=show PBox W5 (w4.heap.size+1) (Hn.hnd t) by
    rw [hW5];have:=PBox.new (w4.alloc (.cells #[.slice A2.g (Hn.given t p).gens.length A2.cg,.slice A2.a (Hn.given t p).ats.length A2.ca] 31)) (Hn.hnd t) 39;rw [World.size_alloc] at this;exact this
   have CS:=aq (show W5.cell? ⟨w4.heap.size,0,none⟩=some (.slice A2.g (Hn.given t p).gens.length A2.cg)/\W5.cell? ⟨w4.heap.size,1,none⟩=some (.slice A2.a (Hn.given t p).ats.length A2.ca)/\W5.cell? ⟨w4.heap.size+1,0,none⟩=some (.int .i64 (Hn.hnd t).1)/\W5.cell? ⟨w4.heap.size+1,1,none⟩=some (.int .i64 (Hn.hnd t).2) from⟨BT.c0,BT.c1,BN.c0,BN.c1⟩);replace BR:=aq (BR.out.below hb);replace BH:=aq (BH.out.below hb);replace OW:=aq (OW.out.below hb);replace BB:=aq (BB.out.trans (hb.mono BB.out.size));rw [<-hW5];clear hW5 hb BT BN;refine wp_region_held_drew (S:=fun w'=>w'.cell? ⟨w4.heap.size,0,none⟩=some (.slice A2.g (Hn.given t p).gens.length A2.cg)/\w'.cell? ⟨w4.heap.size,1,none⟩=some (.slice A2.a (Hn.given t p).ats.length A2.ca)/\w'.cell? ⟨w4.heap.size+1,0,none⟩=some (.int .i64 (Hn.hnd t).1)/\w'.cell? ⟨w4.heap.size+1,1,none⟩=some (.int .i64 (Hn.hnd t).2)) (by kernel_rfl) (by exact CS.out) (fun hHeld=>?_);obtain⟨W5d,hV⟩:∃ V,V=W5.drew:=⟨_,rfl⟩;replace CS:=aq (show W5d.cell? ⟨w4.heap.size,0,none⟩=some (.slice A2.g (Hn.given t p).gens.length A2.cg)/\W5d.cell? ⟨w4.heap.size,1,none⟩=some (.slice A2.a (Hn.given t p).ats.length A2.ca)/\W5d.cell? ⟨w4.heap.size+1,0,none⟩=some (.int .i64 (Hn.hnd t).1)/\W5d.cell? ⟨w4.heap.size+1,1,none⟩=some (.int .i64 (Hn.hnd t).2) by rw [hV];exact CS.out);replace BR:=aq (show HBox W5d (w.heap.size+1) (Ht.zero) (hNone) by rw [hV];exact BR.out.below ((Below.refl _ _).drew))
   replace BH:=aq (show PBox W5d (w.heap.size+1+1) ((0,0)) by rw [hV];exact BH.out.below ((Below.refl _ _).drew));replace OW:=aq (show HOwn W5d (w.heap.size+3) (Hn.given t p) (A2) by rw [hV];exact OW.out.below ((Below.refl _ _).drew));replace BB:=aq (show Below w.heap.size w W5d by rw [hV];exact BB.out.drew);rw [<-hV] at hHeld ⊢;clear hV;refine tk 0 ?_;refine tk 1 ?_;refine rdH 2 fun K hK=>?_;obtain⟨_,z1,z2,zf1,zf2⟩:=BR.out
   try dsimp only [Ht.zero,hNone,List.length_nil] at z1 z2
   go_simp;obtain⟨Fmake1,hU⟩:∃ U,U=wput2 W5d (w.heap.size+1) (.slice (A2).g (Hn.given t p).gens.length (A2).cg) (.slice (A2).a (Hn.given t p).ats.length (A2).ca):=⟨_,rfl⟩;replace CS:=aq (show Fmake1.cell? ⟨w4.heap.size,0,none⟩=some (.slice A2.g (Hn.given t p).gens.length A2.cg)/\Fmake1.cell? ⟨w4.heap.size,1,none⟩=some (.slice A2.a (Hn.given t p).ats.length A2.ca)/\Fmake1.cell? ⟨w4.heap.size+1,0,none⟩=some (.int .i64 (Hn.hnd t).1)/\Fmake1.cell? ⟨w4.heap.size+1,1,none⟩=some (.int .i64 (Hn.hnd t).2) by rw [hU];obtain⟨c0,c1,c2,c3⟩:=CS.out;exact⟨cell_put2 c0 (by omega) _ _,cell_put2 c1 (by omega) _ _,cell_put2 c2 (by omega) _ _,cell_put2 c3 (by omega) _ _⟩);have BXn:=aq (show HBox Fmake1 (w.heap.size+1) (Hn.given t p) (A2) by rw [hU];exact BR.out.put2 (Hn.given t p) (A2));replace BH:=aq (show PBox Fmake1 (w.heap.size+1+1) ((0,0)) by rw [hU];exact BH.out.put2o (by omega) _ _);replace OW:=aq (show HOwn Fmake1 (w.heap.size+3) (Hn.given t p) (A2) by rw [hU];exact OW.out.put2o (OW.out.off_lt (by omega)) _ _);replace BB:=aq (show Below w.heap.size w Fmake1 by rw [hU];exact below_put2 BB.out (by omega) _ _);unfold wput2 at hU
   try dsimp only at hU
   first | rw [<-hU] | skip
   clear hU z1 z2 zf1 zf2 BR;have BR:=BXn;clear BXn;refine hK.out _ _ (CS.out) (fun hHeldmake2=>?_);clear hK K hHeld
   try simp only [sZ]
   refine rdH 3 fun K hK=>?_;obtain⟨_,z1,z2,zf1,zf2⟩:=BH.out
   try dsimp only [Ht.zero,hNone,List.length_nil] at z1 z2
   go_simp;obtain⟨Fmake2,hU⟩:∃ U,U=wput2 Fmake1 (w.heap.size+1+1) (.int .i64 (Hn.hnd t).1) (.int .i64 (Hn.hnd t).2):=⟨_,rfl⟩;replace CS:=aq (show Fmake2.cell? ⟨w4.heap.size,0,none⟩=some (.slice A2.g (Hn.given t p).gens.length A2.cg)/\Fmake2.cell? ⟨w4.heap.size,1,none⟩=some (.slice A2.a (Hn.given t p).ats.length A2.ca)/\Fmake2.cell? ⟨w4.heap.size+1,0,none⟩=some (.int .i64 (Hn.hnd t).1)/\Fmake2.cell? ⟨w4.heap.size+1,1,none⟩=some (.int .i64 (Hn.hnd t).2) by rw [hU];obtain⟨c0,c1,c2,c3⟩:=CS.out;exact⟨cell_put2 c0 (by omega) _ _,cell_put2 c1 (by omega) _ _,cell_put2 c2 (by omega) _ _,cell_put2 c3 (by omega) _ _⟩);have BXn:=aq (show PBox Fmake2 (w.heap.size+1+1) (Hn.hnd t) by rw [hU];exact BH.out.put2 (Hn.hnd t));replace BR:=aq (show HBox Fmake2 (w.heap.size+1) (Hn.given t p) (A2) by rw [hU];exact BR.out.put2o (by omega) _ _);replace OW:=aq (show HOwn Fmake2 (w.heap.size+3) (Hn.given t p) (A2) by rw [hU];exact OW.out.put2o (OW.out.off_lt (by omega)) _ _);replace BB:=aq (show Below w.heap.size w Fmake2 by rw [hU];exact below_put2 BB.out (by omega) _ _);unfold wput2 at hU
   try dsimp only at hU
   first | rw [<-hU] | skip
   clear hU z1 z2 zf1 zf2 BH;have BH:=BXn;clear BXn;refine hK.out _ _ (CS.out) (fun hHeldmake3=>?_);clear hK K hHeldmake2
   try simp only [sZ]
   refine tk 4 ?_;refine wpAnyH_done (by kernel_rfl) ?_ _;go_wp2;obtain⟨_,s0,s1,_,_⟩:=BR.out;obtain⟨_,v0,v1,_,_⟩:=BH.out;refine bodyPost_ret (v:=.tuple #[hv (Hn.given t p) A2,pv (Hn.hnd t),.int .i64 0]) (by simp [results,Tryz.results70,go_sem,hv,pv,s0,s1,v0,v1]) rfl (by unfold HAns3;rw [VV.out,EE.out,VH.out];exact⟨_,rfl,OW.out.lower (by omega),BB.out⟩)
 ·have k1:(placeE t p != 0)=true:=by simpa using hc
  have EE:=aq (make_not hc);have VV:=aq (show Hn.makeV t p=Ht.zero by unfold Hn.makeV;rw [EE.out,if_neg hc]);have VH:=aq (show Hn.makeH t p=(0,0) by unfold Hn.makeH;rw [EE.out,if_neg hc]);clear hc CN CT;obtain⟨_,q0,q1,qf0,qf1⟩:=BR.out;obtain⟨_,r0,r1,rf0,rf1⟩:=BH.out
  dsimp only [Ht.zero,hNone,List.length_nil] at q0 q1
  dsimp only at r0 r1
  go_wp2;obtain⟨U,hU⟩:∃ U,U=wput2 (wput2 w1 (w.heap.size+1) (.slice none 0 0) (.slice none 0 0)) (w.heap.size+1+1) (.int .i64 0) (.int .i64 0):=⟨_,rfl⟩;have BR3:=aq (show HBox U (w.heap.size+1) Ht.zero hNone by rw [hU];exact (BR.out.put2 Ht.zero hNone).put2o (by omega) _ _);have BH3:=aq (show PBox U (w.heap.size+1+1) (0,0) by rw [hU];exact (BH.out.put2o (by omega) _ _).put2 (0,0));have BB3:=aq (show Below w.heap.size w U by rw [hU];exact below_put2 (below_put2 BB.out (by omega) _ _) (by omega) _ _);unfold wput2 at hU;rw [<-hU];clear hU;obtain⟨_,s0,s1,_,_⟩:=BR3.out;obtain⟨_,v0,v1,_,_⟩:=BH3.out
  dsimp only at v0 v1
  dsimp only [Ht.zero,hNone,List.length_nil] at s0 s1
  refine bodyPost_ret (v:=.tuple #[hv Ht.zero hNone,pv (0,0),.int .i64 (placeE t p)]) (by simp [results,Tryz.results70,go_sem,hv,pv,Ht.zero,hNone,s0,s1,v0,v1]) rfl (by unfold HAns3;rw [VV.out,EE.out,VH.out];exact⟨_,rfl,own_zero _ _,BB3.out⟩)
theorem hDrop (t:Ht) (A:HAds) (x:Int×Int) (w:World) (h:HHeld w t A) (ok:t.Ok) (hs:t.Short) (h1:In64 x.1) (h2:In64 x.2) :
  Calls Tryz.prog 104 #[hv t A,pv x] w (HAns (Hn.dropV t x) (Hn.findE t x) w):=by
 obtain⟨n,m⟩:=x;have HB:=aq (fun x y z=>(((Below.refl w.heap.size w).alloc (Nat.le_refl _) x).alloc (by simp) y).alloc (by simp;omega) z);have HX:=aq (fun x y=>((HBox.new w t A 31).below ((Below.refl _ _).alloc (Nat.le_refl _) x)).below ((Below.refl _ _).alloc (Nat.le_refl _) y));have HP:=aq (fun x y=>(PBox.new (w.alloc x) (n,m) 39).below ((Below.refl _ _).alloc (Nat.le_refl _) y));have HY:=aq (fun x y=>HBox.new ((w.alloc x).alloc y) Ht.zero hNone 31);have CC:=aq (fun V (hb:Below w.heap.size w V)=>hCheck t A V (h.below hb) ok hs);have CK:=aq (fun V (hb:Below w.heap.size w V) hM=>hKnown t A (n,m) V (h.below hb) hM);have CT:=aq (fun V (hb:Below w.heap.size w V)=>hCopied t A V (h.below hb) hs);clear h h1 h2 ok hs;unfold hv pv at CK;unfold hv at CC CT;unfold hv pv
 dsimp only at CK ⊢
 go_enter Tryz.func104,Tryz.ntmps104
 go_upto_region 1 with (fail)
 obtain⟨W0,hW0⟩:∃ W,W=((w.alloc (.cells #[.slice A.g t.gens.length A.cg,.slice A.a t.ats.length A.ca] 31)).alloc (.cells #[.int .i64 n,.int .i64 m] 39)).alloc (.cells #[.slice none 0 0,.slice none 0 0] 31):=⟨_,rfl⟩;have BX:=aq (show HBox W0 w.heap.size t A by rw [hW0];exact HX.out _ _);have BP:=aq (show PBox W0 (w.heap.size+1) (n,m) by rw [hW0];have:=HP.out (.cells #[.slice A.g t.gens.length A.cg,.slice A.a t.ats.length A.ca] 31) (.cells #[.slice none 0 0,.slice none 0 0] 31);rw [World.size_alloc] at this;exact this);have BR:=aq (show HBox W0 (w.heap.size+1+1) Ht.zero hNone by rw [hW0];have:=HY.out (.cells #[.slice A.g t.gens.length A.cg,.slice A.a t.ats.length A.ca] 31) (.cells #[.int .i64 n,.int .i64 m] 39);rw [World.size_alloc,World.size_alloc] at this;exact this);have BB:=aq (show Below w.heap.size w W0 by rw [hW0];exact HB.out _ _ _)
 have z0:w.heap.size+3<=W0.heap.size:=by rw [hW0];simp
 rw [<-hW0];clear hW0 HB HX HP HY;obtain⟨_,p0,p1,_,_⟩:=BX.out
 go_wp2_with fail
 refine (CC.out W0 BB.out).mono ?_;rintro e w1 ⟨rfl,hb⟩;have z1:W0.heap.size<=w1.heap.size:=hb.size;replace BX:=aq (BX.out.below hb);replace BP:=aq (BP.out.below hb);replace BR:=aq (BR.out.below hb);replace BB:=aq (BB.out.trans (hb.mono BB.out.size));clear hb p0 p1 CC;obtain⟨_,p0,p1,_,_⟩:=BX.out;obtain⟨_,r0,r1,_,_⟩:=BP.out
 dsimp only at r0 r1
 by_cases hc:Hn.chkE t=0
 ·have k1:(Hn.chkE t != 0)=false:=by simpa using hc
  have HC:=aq hc;have HM:=aq (Hn.chk_may.1 HC.out);clear hc
  go_wp2_with fail
  refine (CK.out w1 BB.out HM.out).mono ?_;rintro e w2 ⟨rfl,hb⟩;have z2:w1.heap.size<=w2.heap.size:=hb.size;replace BX:=aq (BX.out.below hb);replace BP:=aq (BP.out.below hb);replace BR:=aq (BR.out.below hb);replace BB:=aq (BB.out.trans (hb.mono BB.out.size));clear hb p0 p1 r0 r1 CK k1
  cases hi:Hn.isB t (n,m)
  ·have EE:=aq (show Hn.findE t (n,m)=140 by unfold Hn.findE;rw [HC.out,if_pos rfl,hi,if_neg (by simp)])
   have VV:=aq (show Hn.dropV t (n,m)=Ht.zero by unfold Hn.dropV;rw [EE.out,if_neg (by omega)]);obtain⟨_,q0,q1,qf0,qf1⟩:=BR.out
   dsimp only [Ht.zero,hNone,List.length_nil] at q0 q1
   go_wp2;obtain⟨U,hU⟩:∃ U,U=wput2 w2 (w.heap.size+1+1) (.slice none 0 0) (.slice none 0 0):=⟨_,rfl⟩;have BR3:=aq (show HBox U (w.heap.size+1+1) Ht.zero hNone by rw [hU];exact BR.out.put2 Ht.zero hNone);have BB3:=aq (show Below w.heap.size w U by rw [hU];exact below_put2 BB.out (by omega) _ _);unfold wput2 at hU;rw [<-hU];clear hU;obtain⟨_,s0,s1,_,_⟩:=BR3.out
   dsimp only [Ht.zero,hNone,List.length_nil] at s0 s1
   refine bodyPost_ret (v:=.tuple #[hv Ht.zero hNone,.int .i64 (140)]) (by simp [results,Tryz.results104,go_sem,hv,pv,Ht.zero,hNone,s0,s1]) rfl (by unfold HAns;rw [VV.out,EE.out];exact⟨_,rfl,own_zero _ _,BB3.out⟩)
  ·have EE:=aq (show Hn.findE t (n,m)=0 by unfold Hn.findE;rw [HC.out,if_pos rfl,hi,if_pos rfl])
   obtain⟨i0,i1,i3,i4⟩:=(Hn.is_iff t (n,m)).1 hi
   dsimp only at i0 i1 i3 i4
   clear hi;obtain⟨k,rfl⟩:∃ k:Nat,n=k:=⟨n.toNat,by omega⟩;rw [Int.toNat_natCast] at i3 i4;have HK:=aq (show k < t.gens.length by omega);have hmm:=(HM.out.fine k HK.out);rw [i4] at hmm
   have VV:=aq (show Hn.dropV t ((k:Int),m)=⟨t.gens.set k (m+1),t.ats.set k (-1)⟩ by
    unfold Hn.dropV;rw [EE.out,if_pos rfl]
    dsimp only
    rw [Int.toNat_natCast]
    unfold Hn.back;rw [i4])
   have m1:0<=m:=hmm.1;have m2:m<=2147483647:=hmm.2.1;clear hmm i0 i1 i3 i4
   go_upto_region 6 with (fail)
   refine wp_region_held_drew (S:=fun w'=>w'.cell? ⟨w.heap.size,0,none⟩=some (.slice A.g t.gens.length A.cg)/\w'.cell? ⟨w.heap.size,1,none⟩=some (.slice A.a t.ats.length A.ca)/\w'.cell? ⟨w.heap.size+1,0,none⟩=some (.int .i64 (k:Int))/\w'.cell? ⟨w.heap.size+1,1,none⟩=some (.int .i64 m)) (by kernel_rfl) (by exact⟨(BX.out.below ((Below.refl _ _).drew)).c0,(BX.out.below ((Below.refl _ _).drew)).c1,(BP.out.below ((Below.refl _ _).drew)).c0,(BP.out.below ((Below.refl _ _).drew)).c1⟩) (fun hHeld=>?_);obtain⟨V0,hV⟩:∃ V,V=w2.drew:=⟨_,rfl⟩;replace BX:=aq (show HBox V0 w.heap.size t A by rw [hV];exact BX.out.below ((Below.refl _ _).drew));replace BP:=aq (show PBox V0 (w.heap.size+1) ((k:Int),m) by rw [hV];exact BP.out.below ((Below.refl _ _).drew));replace BR:=aq (show HBox V0 (w.heap.size+1+1) Ht.zero hNone by rw [hV];exact BR.out.below ((Below.refl _ _).drew));replace BB:=aq (show Below w.heap.size w V0 by rw [hV];exact BB.out.drew)
   have y0:w2.heap.size=V0.heap.size:=by rw [hV];rfl
   rw [<-hV] at hHeld ⊢;clear hV;refine tk 0 ?_;refine tk 2 ?_;refine tk 3 ?_;refine tk 4 ?_;refine tk 5 ?_;refine tk 6 ?_;refine tk 7 ?_;refine rdH 1 fun K hK=>?_;have ew:IntKind.i64.wrap (m+1)=m+1:=IntWalk.i64_in _ (by omega)
   simp only [ew]
   clear ew;go_simp;refine (CT.out V0 BB.out).mono ?_;rintro e V1 ⟨A1,rfl,own,hb⟩
   try unfold hv
   try (go_simp)
   have y1:V0.heap.size<=V1.heap.size:=hb.size;replace BX:=aq (BX.out.below hb);replace BP:=aq (BP.out.below hb);replace BR:=aq (BR.out.below hb);replace BB:=aq (BB.out.trans (hb.mono BB.out.size));have OR:=aq own;clear own hb;refine hK.out _ _ (by exact⟨BX.out.c0,BX.out.c1,BP.out.c0,BP.out.c1⟩) (fun hHelddrop7=>?_);clear hK K hHeld
   try simp only [sZ]
   refine rdH 8 fun K hK=>?_;go_simp;refine (hLay t A1 k (m+1) (-1) V0.heap.size V1 OR.out.own y1 HK.out HM.out.len).mono ?_;rintro e V2 ⟨rfl,own,hb,_⟩
   try unfold hv
   try dsimp only
   have y2:V1.heap.size<=V2.heap.size:=hb.size;replace BX:=aq (BX.out.low (by omega) hb);replace BP:=aq (BP.out.lowH (by omega) hb);replace BR:=aq (BR.out.low (by omega) hb);replace BB:=aq (BB.out.trans (hb.mono (by omega)));have OW:=aq (own.lower (show w.heap.size+3<=V0.heap.size by omega));clear own hb OR;refine hK.out _ _ (by exact⟨BX.out.c0,BX.out.c1,BP.out.c0,BP.out.c1⟩) (fun hHelddrop8=>?_);clear hK K hHelddrop7
   try simp only [sZ]
   refine rdH 9 fun K hK=>?_;obtain⟨_,q0,q1,qf0,qf1⟩:=BR.out
   dsimp only [Ht.zero,hNone,List.length_nil] at q0 q1
   go_simp;obtain⟨V3,hU⟩:∃ U,U=wput2 V2 (w.heap.size+1+1) (.slice A1.g t.gens.length A1.cg) (.slice A1.a t.ats.length A1.ca):=⟨_,rfl⟩;have BY:=aq (show HBox V3 (w.heap.size+1+1) ⟨t.gens.set k (m+1),t.ats.set k (-1)⟩ A1 by rw [hU];have h9:=BR.out.put2 ⟨t.gens.set k (m+1),t.ats.set k (-1)⟩ A1;simp only [List.length_set] at h9;exact h9);replace BX:=aq (show HBox V3 w.heap.size t A by rw [hU];exact BX.out.put2o (by omega) _ _);replace BP:=aq (show PBox V3 (w.heap.size+1) ((k:Int),m) by rw [hU];exact BP.out.put2o (by omega) _ _);replace OW:=aq (show HOwn V3 (w.heap.size+3) ⟨t.gens.set k (m+1),t.ats.set k (-1)⟩ A1 by rw [hU];exact OW.out.put2 (by omega) _ _);replace BB:=aq (show Below w.heap.size w V3 by rw [hU];exact below_put2 BB.out (by omega) _ _);unfold wput2 at hU
   first | rw [<-hU] | skip
   clear hU q0 q1 qf0 qf1 BR;refine hK.out _ _ (by exact⟨BX.out.c0,BX.out.c1,BP.out.c0,BP.out.c1⟩) (fun hHelddrop9=>?_);clear hK K hHelddrop8
   try simp only [sZ]
   refine tk 10 ?_;refine wpAnyH_done (by kernel_rfl) ?_ _;go_wp2;obtain⟨_,s0,s1,_,_⟩:=BY.out
   simp only [List.length_set] at s0 s1
   refine bodyPost_ret (v:=.tuple #[hv ⟨t.gens.set k (m+1),t.ats.set k (-1)⟩ A1,.int .i64 0]) (by simp [results,Tryz.results104,go_sem,hv,s0,s1]) rfl (by unfold HAns;rw [VV.out,EE.out];exact⟨_,rfl,OW.out.lower (by omega),BB.out⟩)
 ·have k1:(Hn.chkE t != 0)=true:=by simpa using hc
  have EE:=aq (show Hn.findE t (n,m)=Hn.chkE t by unfold Hn.findE;rw [if_neg hc]);have VV:=aq (show Hn.dropV t (n,m)=Ht.zero by unfold Hn.dropV;rw [EE.out,if_neg hc]);clear hc CK CT p0 p1 r0 r1;obtain⟨_,q0,q1,qf0,qf1⟩:=BR.out
  dsimp only [Ht.zero,hNone,List.length_nil] at q0 q1
  go_wp2;obtain⟨U,hU⟩:∃ U,U=wput2 w1 (w.heap.size+1+1) (.slice none 0 0) (.slice none 0 0):=⟨_,rfl⟩;have BR3:=aq (show HBox U (w.heap.size+1+1) Ht.zero hNone by rw [hU];exact BR.out.put2 Ht.zero hNone);have BB3:=aq (show Below w.heap.size w U by rw [hU];exact below_put2 BB.out (by omega) _ _);unfold wput2 at hU;rw [<-hU];clear hU;obtain⟨_,s0,s1,_,_⟩:=BR3.out
  dsimp only [Ht.zero,hNone,List.length_nil] at s0 s1
  refine bodyPost_ret (v:=.tuple #[hv Ht.zero hNone,.int .i64 (Hn.chkE t)]) (by simp [results,Tryz.results104,go_sem,hv,pv,Ht.zero,hNone,s0,s1]) rfl (by unfold HAns;rw [VV.out,EE.out];exact⟨_,rfl,own_zero _ _,BB3.out⟩)
end Go.Proofs.YtpeckljoannolaaGreatDoor
