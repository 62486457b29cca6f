/- What the law package of layer 12's own functions return: chapter, is, alive. -/
import Derived.Test.YtfdpkmafemidjaaDoorSpanSp
import Derived.Test.YtfdpkmafemidjaaDoorSpanBSp
import Derived.Test.YtfdpkmafemidjaaDoorM23Sp
import Derived.Test.YtfdpkmafemidjaaDoorM17Sp
import Derived.Test.YtfdpkmafemidjaaDoorM15Sp
import Derived.Test.YtfdpkmafemidjaaDoorM08Sp
import Derived.Test.YtfdpkmafemidjaaDoorTkSp
set_option linter.unusedVariables false
set_option linter.unusedSimpArgs false
set_option maxHeartbeats 4000000
set_option maxRecDepth 100000
namespace Go.Proofs.YtfdpkmafemidjaaDoor
open Go.RowKit
def Sn.ch:Sl:=(((Sl.newS 4 8).layS 1 (5,50)).layS 2 (9,90)).layS 7 (12,120)
theorem small12 {z:Int} (h1:-1000<=z) (h2:z<=1000):In64 z:=⟨by omega,by omega⟩
theorem snch_fine:Sn.ch.Ok/\Sn.ch.Short :=
 have ok0:=ok_new (seg:=4) (many:=8) (small12 (by omega) (by omega));have sh0:=short_new (seg:=4) (many:=8);have ok1:=ok_lay ok0 sh0 1 (p:=(5,50)) (small12 (by decide) (by decide)) (small12 (by decide) (by decide));have sh1:=short_lay sh0 1 (5,50);have ok2:=ok_lay ok1 sh1 2 (p:=(9,90)) (small12 (by decide) (by decide)) (small12 (by decide) (by decide));have sh2:=short_lay sh1 2 (9,90);have ok3:=ok_lay ok2 sh2 7 (p:=(12,120)) (small12 (by decide) (by decide)) (small12 (by decide) (by decide));have sh3:=short_lay sh2 7 (12,120)
 ⟨ok3,sh3⟩
theorem l12Chapter (w:World) (hT:Tab w) :
  Calls Tryd.prog 11 #[] w fun e w'=>∃ a,e=.returned (slv Sn.ch a)/\Own w' w.heap.size Sn.ch a/\Below w.heap.size w w':=by
 have ok0:=aq (ok_new (seg:=4) (many:=8) (small12 (by omega) (by omega)));have sh0:=aq (short_new (seg:=4) (many:=8));have ok1:=aq (ok_lay ok0.out sh0.out 1 (p:=(5,50)) (small12 (by decide) (by decide)) (small12 (by decide) (by decide)));have sh1:=aq (short_lay sh0.out 1 (5,50));have ok2:=aq (ok_lay ok1.out sh1.out 2 (p:=(9,90)) (small12 (by decide) (by decide)) (small12 (by decide) (by decide)));have sh2:=aq (short_lay sh1.out 2 (9,90));have CN:=aq (fun V=>sNew 4 8 V (small12 (by omega) (by omega)) (small12 (by omega) (by omega)));have CL1:=aq (fun A V (hv:Held V (Sl.newS 4 8) A) tv=>cLay (Sl.newS 4 8) A 1 (5,50) V hv ok0.out sh0.out tv);have CL2:=aq (fun A V (hv:Held V ((Sl.newS 4 8).layS 1 (5,50)) A) tv=>cLay ((Sl.newS 4 8).layS 1 (5,50)) A 2 (9,90) V hv ok1.out sh1.out tv);have CL3:=aq (fun A V (hv:Held V (((Sl.newS 4 8).layS 1 (5,50)).layS 2 (9,90)) A) tv=>cLay (((Sl.newS 4 8).layS 1 (5,50)).layS 2 (9,90)) A 7 (12,120) V hv ok2.out sh2.out tv);unfold Sn.ch;obtain⟨S3,hS3⟩:∃ S,S=(((Sl.newS 4 8).layS 1 (5,50)).layS 2 (9,90)).layS 7 (12,120):=⟨_,rfl⟩;obtain⟨E3,hE3⟩:∃ S,S=(((Sl.newS 4 8).layS 1 (5,50)).layS 2 (9,90)).layE 7:=⟨_,rfl⟩;rw [<-hS3] at CL3 ⊢;rw [<-hE3] at CL3;clear hE3;obtain⟨S2,hS2⟩:∃ S,S=((Sl.newS 4 8).layS 1 (5,50)).layS 2 (9,90):=⟨_,rfl⟩;obtain⟨E2,hE2⟩:∃ S,S=((Sl.newS 4 8).layS 1 (5,50)).layE 2:=⟨_,rfl⟩
 rw [<-hS2] at CL2 CL3;rw [<-hE2] at CL2;clear hE2;obtain⟨S1,hS1⟩:∃ S,S=(Sl.newS 4 8).layS 1 (5,50):=⟨_,rfl⟩;obtain⟨E1,hE1⟩:∃ S,S=(Sl.newS 4 8).layE 1:=⟨_,rfl⟩;rw [<-hS1] at CL1 CL2;rw [<-hE1] at CL1;clear hE1;obtain⟨S0,hS0⟩:∃ S,S=Sl.newS 4 8:=⟨_,rfl⟩;obtain⟨E0,hE0⟩:∃ S,S=Sl.newE 4 8:=⟨_,rfl⟩;rw [<-hS0,<-hE0] at CN;rw [<-hS0] at CL1;have TB0:=aq hT;have HR:=aq (Box.new w Sl.none adsNone 27);have HB:=aq (fun o=>(Below.refl w.heap.size w).alloc (Nat.le_refl _) o);clear hS0 hE0 hS1 hS2 hS3 ok0 sh0 ok1 sh1 ok2 sh2 hT;unfold slv pv at CL1 CL2 CL3
 go_enter Tryd.func11,Tryd.ntmps11
 go_wp2_with fail
 refine (CN.out _).mono ?_;rintro e w1 ⟨A0,rfl,own,hb⟩
 have zz:w.heap.size < w1.heap.size:=by have:=hb.size;simp at this;omega
 have BB:=aq ((HB.out _).trans (hb.mono (by simp)));have BR:=aq (HR.out.below hb);have O0:=aq own;clear hb own HR HB;unfold slv
 go_upto_region 2 with (fail)
 obtain⟨V0,hV⟩:∃ V,V=w1.alloc (.cells #[.int .i64 S0.seg,.slice A0.w S0.words.length A0.cw,.slice A0.k S0.keys.length A0.ck,.slice A0.v S0.vals.length A0.cv,.slice A0.c S0.counts.length A0.cc,.int .u64 (S0.laid:Int)] 27):=⟨_,rfl⟩
 have hba:Below w1.heap.size w1 V0:=by rw [hV];exact (Below.refl _ _).alloc (Nat.le_refl _) _
 have BX:=aq (show Box V0 w1.heap.size S0 A0 by rw [hV];exact Box.new w1 S0 A0 27)
 first | rw [<-hV] | skip
 replace O0:=aq (O0.out.below hba);replace BR:=aq (BR.out.below hba);replace BB:=aq (BB.out.trans (hba.mono BB.out.size));have TB:=aq (TB0.out.below BB.out);clear hV hba;obtain⟨_,p0,p1,p2,p3,p4,p5,_⟩:=BX.out
 go_wp2_with fail
 refine (CL1.out A0 _ O0.out.held TB.out).mono ?_;rintro e w2 ⟨A1,rfl,own,hb⟩;replace BB:=aq (BB.out.trans (hb.mono BB.out.size));replace BX:=aq (BX.out.below hb);replace BR:=aq (BR.out.below hb);have O1:=aq own;have z2:=hb.size;have g0:=BX.out.lt;clear hb own p0 p1 p2 p3 p4 p5 O0;unfold slv;obtain⟨_,p0,p1,p2,p3,p4,p5,pf⟩:=BX.out;have pf0:=pf 0;have pf1:=pf 1;have pf2:=pf 2;have pf3:=pf 3;have pf4:=pf 4;have pf5:=pf 5;clear pf
 go_upto_region 3 with (fail)
 obtain⟨V1,hV⟩:∃ V,V=put6 w2 w1.heap.size (.int .i64 S1.seg) (.slice A1.w S1.words.length A1.cw) (.slice A1.k S1.keys.length A1.ck) (.slice A1.v S1.vals.length A1.cv) (.slice A1.c S1.counts.length A1.cc) (.int .u64 (S1.laid:Int)):=⟨_,rfl⟩;replace BX:=aq (show Box V1 w1.heap.size S1 A1 by rw [hV];exact BX.out.put6 S1 A1);replace BR:=aq (show Box V1 w.heap.size Sl.none adsNone by rw [hV];exact BR.out.put6o (by omega) _ _ _ _ _ _);replace O1:=aq (show Own V1 w1.heap.size S1 A1 by rw [hV];exact⟨(O1.out.words.put6 (by omega) _ _ _ _ _ _).lower (by omega),(O1.out.keys.put6 (by omega) _ _ _ _ _ _).lower (by omega),(O1.out.vals.put6 (by omega) _ _ _ _ _ _).lower (by omega),(O1.out.counts.put6 (by omega) _ _ _ _ _ _).lower (by omega),O1.out.caps⟩);replace BB:=aq (show Below w.heap.size w V1 by rw [hV];exact below_put6 BB.out (Nat.le_of_lt zz) _ _ _ _ _ _);replace TB:=aq (TB0.out.below BB.out);unfold put6 at hV
 first | rw [<-hV] | skip
 have y1:w1.heap.size < V1.heap.size:=BX.out.lt;clear hV p0 p1 p2 p3 p4 p5 pf0 pf1 pf2 pf3 pf4 pf5 z2 g0;obtain⟨_,p0,p1,p2,p3,p4,p5,_⟩:=BX.out
 go_wp2_with fail
 refine (CL2.out A1 _ O1.out.held TB.out).mono ?_;rintro e w3 ⟨A2,rfl,own,hb⟩;replace BB:=aq (BB.out.trans (hb.mono BB.out.size));replace BX:=aq (BX.out.below hb);replace BR:=aq (BR.out.below hb);have O2:=aq own;have z3:=hb.size;have g0:=BX.out.lt;clear hb own p0 p1 p2 p3 p4 p5 O1;unfold slv;obtain⟨_,p0,p1,p2,p3,p4,p5,pf⟩:=BX.out;have pf0:=pf 0;have pf1:=pf 1;have pf2:=pf 2;have pf3:=pf 3;have pf4:=pf 4;have pf5:=pf 5;clear pf
 go_upto_region 4 with (fail)
 obtain⟨V2,hV⟩:∃ V,V=put6 w3 w1.heap.size (.int .i64 S2.seg) (.slice A2.w S2.words.length A2.cw) (.slice A2.k S2.keys.length A2.ck) (.slice A2.v S2.vals.length A2.cv) (.slice A2.c S2.counts.length A2.cc) (.int .u64 (S2.laid:Int)):=⟨_,rfl⟩;replace BX:=aq (show Box V2 w1.heap.size S2 A2 by rw [hV];exact BX.out.put6 S2 A2);replace BR:=aq (show Box V2 w.heap.size Sl.none adsNone by rw [hV];exact BR.out.put6o (by omega) _ _ _ _ _ _);replace O2:=aq (show Own V2 w1.heap.size S2 A2 by rw [hV];exact⟨(O2.out.words.put6 (by omega) _ _ _ _ _ _).lower (by omega),(O2.out.keys.put6 (by omega) _ _ _ _ _ _).lower (by omega),(O2.out.vals.put6 (by omega) _ _ _ _ _ _).lower (by omega),(O2.out.counts.put6 (by omega) _ _ _ _ _ _).lower (by omega),O2.out.caps⟩);replace BB:=aq (show Below w.heap.size w V2 by rw [hV];exact below_put6 BB.out (Nat.le_of_lt zz) _ _ _ _ _ _);replace TB:=aq (TB0.out.below BB.out);unfold put6 at hV
 first | rw [<-hV] | skip
 have y2:w1.heap.size < V2.heap.size:=BX.out.lt;clear hV p0 p1 p2 p3 p4 p5 pf0 pf1 pf2 pf3 pf4 pf5 z3 g0;obtain⟨_,p0,p1,p2,p3,p4,p5,_⟩:=BX.out
 go_wp2_with fail
 refine (CL3.out A2 _ O2.out.held TB.out).mono ?_;rintro e w4 ⟨A3,rfl,own,hb⟩;replace BB:=aq (BB.out.trans (hb.mono BB.out.size));replace BX:=aq (BX.out.below hb);replace BR:=aq (BR.out.below hb);have O3:=aq own;have z4:=hb.size;have g0:=BX.out.lt;clear hb own p0 p1 p2 p3 p4 p5 O2;unfold slv;obtain⟨_,p0,p1,p2,p3,p4,p5,pf⟩:=BX.out;have pf0:=pf 0;have pf1:=pf 1;have pf2:=pf 2;have pf3:=pf 3;have pf4:=pf 4;have pf5:=pf 5;clear pf
 go_upto_region 5 with (fail)
 obtain⟨V3,hV⟩:∃ V,V=put6 w4 w1.heap.size (.int .i64 S3.seg) (.slice A3.w S3.words.length A3.cw) (.slice A3.k S3.keys.length A3.ck) (.slice A3.v S3.vals.length A3.cv) (.slice A3.c S3.counts.length A3.cc) (.int .u64 (S3.laid:Int)):=⟨_,rfl⟩;replace BX:=aq (show Box V3 w1.heap.size S3 A3 by rw [hV];exact BX.out.put6 S3 A3);replace BR:=aq (show Box V3 w.heap.size Sl.none adsNone by rw [hV];exact BR.out.put6o (by omega) _ _ _ _ _ _);replace O3:=aq (show Own V3 w1.heap.size S3 A3 by rw [hV];exact⟨(O3.out.words.put6 (by omega) _ _ _ _ _ _).lower (by omega),(O3.out.keys.put6 (by omega) _ _ _ _ _ _).lower (by omega),(O3.out.vals.put6 (by omega) _ _ _ _ _ _).lower (by omega),(O3.out.counts.put6 (by omega) _ _ _ _ _ _).lower (by omega),O3.out.caps⟩);replace BB:=aq (show Below w.heap.size w V3 by rw [hV];exact below_put6 BB.out (Nat.le_of_lt zz) _ _ _ _ _ _);replace TB:=aq (TB0.out.below BB.out);unfold put6 at hV
 first | rw [<-hV] | skip
 have y3:w1.heap.size < V3.heap.size:=BX.out.lt;clear hV p0 p1 p2 p3 p4 p5 pf0 pf1 pf2 pf3 pf4 pf5 z4 g0;obtain⟨_,p0,p1,p2,p3,p4,p5,_⟩:=BX.out;obtain⟨_,s0,s1,s2,s3,s4,s5,sf⟩:=BR.out;have pf0:=sf 0;have pf1:=sf 1;have pf2:=sf 2;have pf3:=sf 3;have pf4:=sf 4;have pf5:=sf 5;clear sf;have y0:w.heap.size < V3.heap.size:=BR.out.lt;go_wp2;refine bodyPost_ret (v:=slv S3 A3) (by simp [results,Tryd.results11,go_sem,slv,s0,s1,s2,s3,s4,s5,pf0,pf1,pf2,pf3,pf4,pf5]) rfl ⟨_,rfl,?_,?_⟩
 ·exact⟨(O3.out.words.put6 (by omega) _ _ _ _ _ _).lower (by omega),(O3.out.keys.put6 (by omega) _ _ _ _ _ _).lower (by omega),(O3.out.vals.put6 (by omega) _ _ _ _ _ _).lower (by omega),(O3.out.counts.put6 (by omega) _ _ _ _ _ _).lower (by omega),O3.out.caps⟩
 ·exact below_put6 BB.out (Nat.le_refl _) _ _ _ _ _ _
theorem l12Yes (k p2:Int) (w:World) (hp:p2=10*k) (h1:-1000<=k) (h2:k<=1000) :
  Calls Tryd.prog 17 #[.agg #[.int .i64 k,.int .i64 p2],.int .i64 0,.int .i64 k] w fun e w'=>e=.returned (.bool true)/\Below w.heap.size w w':=by
 subst hp;have HB:=aq ((Below.refl w.heap.size w).alloc (Nat.le_refl _) (.cells #[.int .i64 k,.int .i64 (10*k)] 32));have PX:=aq (PBox.new w (k,10*k) 32);have hw:IntKind.i64.wrap (10*k)=10*k:=IntWalk.i64_in _ (by omega);clear h1 h2
 go_enter Tryd.func17,Tryd.ntmps17
 go_upto_region 1 with (fail)
 obtain⟨W0,hW0⟩:∃ W0,W0=w.alloc (.cells #[.int .i64 k,.int .i64 (10*k)] 32):=⟨_,rfl⟩
 dsimp only at PX
 rw [<-hW0] at HB PX ⊢;clear hW0;have d0:=PX.out.c0;have d1:=PX.out.c1
 dsimp only at d0 d1
 go_wp2
 try (go_quiet (fail))
 try go_wp2
 go_ret;exact⟨rfl,by first | exact HB.out | exact below_drewN HB.out _⟩
theorem alive12_facts:Sn.floorV Sn.ch 9=(9,90)/\Sn.floorE Sn.ch 9=0/\Sn.floorV Sn.ch 11=(9,90)/\Sn.floorE Sn.ch 11=0/\Sn.ceilV Sn.ch 10=(12,120)/\Sk.nextE Sn.ch 10=0/\Sn.selV Sn.ch 1=(9,90)/\Sn.selE Sn.ch 1=0/\Sn.scanV Sn.ch 6 12 1=[(9,90)]/\Sn.scanE Sn.ch 1=0:=by decide +kernel
theorem l12Alive (w:World) (hT:Tab w) :
  Calls Tryd.prog 18 #[] w fun e w'=>e=.returned (.bool true)/\Below w.heap.size w w':=by
 obtain⟨f0,f1,f2,f3,f4,f5,f6,f7,f8,f9⟩:=alive12_facts;have CF:=aq snch_fine;have CC:=aq (fun V tv=>l12Chapter V tv);have C1:=aq (fun A V (hv:Held V Sn.ch A) tv=>nFloorOf Sn.ch A 9 V hv CF.out.1 CF.out.2 tv);rw [f0,f1] at C1;have C2:=aq (fun A V (hv:Held V Sn.ch A) tv=>nFloorOf Sn.ch A 11 V hv CF.out.1 CF.out.2 tv);rw [f2,f3] at C2;have C3:=aq (fun A V (hv:Held V Sn.ch A) tv=>nCeilOf Sn.ch A 10 V hv CF.out.1 CF.out.2 tv);rw [f4,f5] at C3;have C4:=aq (fun A V (hv:Held V Sn.ch A) tv=>nSelect Sn.ch A 1 V hv CF.out.1 CF.out.2 tv (small12 (by decide) (by decide)));rw [f6,f7] at C4;have C5:=aq (fun A V (hv:Held V Sn.ch A) tv=>nScan Sn.ch A 6 12 1 V hv CF.out.1 CF.out.2 tv);unfold ScanPost at C5;rw [f8,f9] at C5;obtain⟨S0,hS0⟩:∃ S,S=Sn.ch:=⟨_,rfl⟩;rw [<-hS0] at CC C1 C2 C3 C4 C5;have TB:=aq hT;have BB:=aq (Below.refl w.heap.size w);clear f0 f1 f2 f3 f4 f5 f6 f7 f8 f9 hS0 hT CF;unfold slv at C1 C2 C3 C4 C5;unfold pv at C1 C2 C3 C4
 go_enter Tryd.func18,Tryd.ntmps18
 go_wp2_with fail
 refine (CC.out _ TB.out).mono ?_;rintro e w2 ⟨A1,rfl,own,hb⟩;replace BB:=aq (BB.out.trans (hb.mono BB.out.size));replace TB:=aq (TB.out.below hb);have O1:=aq own.held;clear hb own;unfold slv
 go_wp2_with fail
 refine (C1.out A1 _ O1.out TB.out).mono ?_;rintro e w3 ⟨rfl,hb⟩;replace BB:=aq (BB.out.trans (hb.mono BB.out.size));replace TB:=aq (TB.out.below hb);clear hb O1
 go_upto_region 2 with (fail)
 obtain⟨V1,hV⟩:∃ V,V=w3.alloc (.cells #[.int .i64 9,.int .i64 90] 32):=⟨_,rfl⟩
 have hba:Below w3.heap.size w3 V1:=by rw [hV];exact (Below.refl _ _).alloc (Nat.le_refl _) _
 have P1:=aq (show PBox V1 w3.heap.size (9,90) by rw [hV];exact PBox.new w3 (9,90) 32);rw [<-hV];replace BB:=aq (BB.out.trans (hba.mono BB.out.size));replace TB:=aq (TB.out.below hba);clear hV hba
 go_wp2_with fail
 refine (CC.out _ TB.out).mono ?_;rintro e w4 ⟨A2,rfl,own,hb⟩;replace BB:=aq (BB.out.trans (hb.mono BB.out.size));replace TB:=aq (TB.out.below hb);replace P1:=aq (P1.out.below hb);have O2:=aq own.held;clear hb own;unfold slv
 go_wp2_with fail
 refine (C2.out A2 _ O2.out TB.out).mono ?_;rintro e w5 ⟨rfl,hb⟩;replace BB:=aq (BB.out.trans (hb.mono BB.out.size));replace TB:=aq (TB.out.below hb);replace P1:=aq (P1.out.below hb);clear hb O2
 go_upto_region 3 with (fail)
 obtain⟨V2,hV⟩:∃ V,V=w5.alloc (.cells #[.int .i64 9,.int .i64 90] 32):=⟨_,rfl⟩
 have hba:Below w5.heap.size w5 V2:=by rw [hV];exact (Below.refl _ _).alloc (Nat.le_refl _) _
 have P2:=aq (show PBox V2 w5.heap.size (9,90) by rw [hV];exact PBox.new w5 (9,90) 32);rw [<-hV];replace BB:=aq (BB.out.trans (hba.mono BB.out.size));replace TB:=aq (TB.out.below hba);replace P1:=aq (P1.out.below hba);clear hV hba
 go_wp2_with fail
 refine (CC.out _ TB.out).mono ?_;rintro e w6 ⟨A3,rfl,own,hb⟩;replace BB:=aq (BB.out.trans (hb.mono BB.out.size));replace TB:=aq (TB.out.below hb);replace P1:=aq (P1.out.below hb);replace P2:=aq (P2.out.below hb);have O3:=aq own.held;clear hb own;unfold slv
 go_wp2_with fail
 refine (C3.out A3 _ O3.out TB.out).mono ?_;rintro e w7 ⟨rfl,hb⟩;replace BB:=aq (BB.out.trans (hb.mono BB.out.size));replace TB:=aq (TB.out.below hb);replace P1:=aq (P1.out.below hb);replace P2:=aq (P2.out.below hb);clear hb O3
 go_upto_region 4 with (fail)
 obtain⟨V3,hV⟩:∃ V,V=w7.alloc (.cells #[.int .i64 12,.int .i64 120] 32):=⟨_,rfl⟩
 have hba:Below w7.heap.size w7 V3:=by rw [hV];exact (Below.refl _ _).alloc (Nat.le_refl _) _
 have P3:=aq (show PBox V3 w7.heap.size (12,120) by rw [hV];exact PBox.new w7 (12,120) 32);rw [<-hV];replace BB:=aq (BB.out.trans (hba.mono BB.out.size));replace TB:=aq (TB.out.below hba);replace P1:=aq (P1.out.below hba);replace P2:=aq (P2.out.below hba);clear hV hba
 go_wp2_with fail
 refine (CC.out _ TB.out).mono ?_;rintro e w8 ⟨A4,rfl,own,hb⟩;replace BB:=aq (BB.out.trans (hb.mono BB.out.size));replace TB:=aq (TB.out.below hb);replace P1:=aq (P1.out.below hb);replace P2:=aq (P2.out.below hb);replace P3:=aq (P3.out.below hb);have O4:=aq own.held;clear hb own;unfold slv
 go_wp2_with fail
 refine (C4.out A4 _ O4.out TB.out).mono ?_;rintro e w9 ⟨rfl,hb⟩;replace BB:=aq (BB.out.trans (hb.mono BB.out.size));replace TB:=aq (TB.out.below hb);replace P1:=aq (P1.out.below hb);replace P2:=aq (P2.out.below hb);replace P3:=aq (P3.out.below hb);clear hb O4
 go_upto_region 5 with (fail)
 obtain⟨V4,hV⟩:∃ V,V=w9.alloc (.cells #[.int .i64 9,.int .i64 90] 32):=⟨_,rfl⟩
 have hba:Below w9.heap.size w9 V4:=by rw [hV];exact (Below.refl _ _).alloc (Nat.le_refl _) _
 have P4:=aq (show PBox V4 w9.heap.size (9,90) by rw [hV];exact PBox.new w9 (9,90) 32);rw [<-hV];replace BB:=aq (BB.out.trans (hba.mono BB.out.size));replace TB:=aq (TB.out.below hba);replace P1:=aq (P1.out.below hba);replace P2:=aq (P2.out.below hba);replace P3:=aq (P3.out.below hba);clear hV hba
 go_wp2_with fail
 refine (CC.out _ TB.out).mono ?_;rintro e w10 ⟨A5,rfl,own,hb⟩;replace BB:=aq (BB.out.trans (hb.mono BB.out.size));replace TB:=aq (TB.out.below hb);replace P1:=aq (P1.out.below hb);replace P2:=aq (P2.out.below hb);replace P3:=aq (P3.out.below hb);replace P4:=aq (P4.out.below hb);have O5:=aq own.held;clear hb own;unfold slv
 go_wp2_with fail
 refine (C5.out A5 _ O5.out TB.out).mono ?_;rintro e w11 ⟨v,rfl,hown,hb⟩;replace BB:=aq (BB.out.trans (hb.mono BB.out.size));replace TB:=aq (TB.out.below hb);replace P1:=aq (P1.out.below hb);replace P2:=aq (P2.out.below hb);replace P3:=aq (P3.out.below hb);replace P4:=aq (P4.out.below hb);obtain⟨Ax,cx,rfl,hP,_⟩:=own_cells hown;have PX:=aq (show PLst w11 Ax [(9,90)] from hP);clear hb O5 hown hP;obtain⟨_,q0,q1,_⟩:=P1.out
 dsimp only at q0 q1
 go_wp2_with fail
 refine (l12Yes 9 90 _ (by decide) (by decide) (by decide)).mono ?_;rintro e x1 ⟨rfl,hb⟩;replace BB:=aq (BB.out.trans (hb.mono BB.out.size));replace TB:=aq (TB.out.below hb);replace P1:=aq (P1.out.below hb);replace P2:=aq (P2.out.below hb);replace P3:=aq (P3.out.below hb);replace P4:=aq (P4.out.below hb);replace PX:=aq (PX.out.below hb);clear hb q0 q1;obtain⟨_,q0,q1,_⟩:=P2.out
 dsimp only at q0 q1
 go_wp2_with fail
 refine (l12Yes 9 90 _ (by decide) (by decide) (by decide)).mono ?_;rintro e x2 ⟨rfl,hb⟩;replace BB:=aq (BB.out.trans (hb.mono BB.out.size));replace TB:=aq (TB.out.below hb);replace P1:=aq (P1.out.below hb);replace P2:=aq (P2.out.below hb);replace P3:=aq (P3.out.below hb);replace P4:=aq (P4.out.below hb);replace PX:=aq (PX.out.below hb);clear hb q0 q1;obtain⟨_,q0,q1,_⟩:=P3.out
 dsimp only at q0 q1
 go_wp2_with fail
 refine (l12Yes 12 120 _ (by decide) (by decide) (by decide)).mono ?_;rintro e x3 ⟨rfl,hb⟩;replace BB:=aq (BB.out.trans (hb.mono BB.out.size));replace TB:=aq (TB.out.below hb);replace P1:=aq (P1.out.below hb);replace P2:=aq (P2.out.below hb);replace P3:=aq (P3.out.below hb);replace P4:=aq (P4.out.below hb);replace PX:=aq (PX.out.below hb);clear hb q0 q1;obtain⟨_,q0,q1,_⟩:=P4.out
 dsimp only at q0 q1
 go_wp2_with fail
 refine (l12Yes 9 90 _ (by decide) (by decide) (by decide)).mono ?_;rintro e x4 ⟨rfl,hb⟩;replace BB:=aq (BB.out.trans (hb.mono BB.out.size));replace TB:=aq (TB.out.below hb);replace P1:=aq (P1.out.below hb);replace P2:=aq (P2.out.below hb);replace P3:=aq (P3.out.below hb);replace P4:=aq (P4.out.below hb);replace PX:=aq (PX.out.below hb);clear hb q0 q1;obtain⟨b1,o1,rfl,_,c1,c2⟩:=PX.out.pair (i:=0) (by decide)
 have c3:x4.cell? ⟨b1,o1,none⟩=some (.int .i64 9):=by simpa using c1
 clear c1 c2;go_wp2;go_ret;exact⟨rfl,BB.out⟩
end Go.Proofs.YtfdpkmafemidjaaDoor
