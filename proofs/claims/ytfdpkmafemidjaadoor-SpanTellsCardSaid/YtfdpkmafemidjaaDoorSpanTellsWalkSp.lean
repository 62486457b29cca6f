/- The walk of the law SpanTells: floors, ceilings, the first, the last and the pair of a number are the document's; what came in stays. -/
import Derived.Test.YtfdpkmafemidjaaDoorSpanBSp
import Derived.Test.YtfdpkmafemidjaaDoorRefC12Sp
import Derived.Test.YtfdpkmafemidjaaDoorM04Sp
import Derived.Test.YtfdpkmafemidjaaDoorM08Sp
import Derived.Test.YtfdpkmafemidjaaDoorTkSp
set_option linter.unusedVariables false
set_option linter.unusedSimpArgs false
set_option maxHeartbeats 8000000
set_option maxRecDepth 100000
namespace Go.Proofs.YtfdpkmafemidjaaDoor.spanTells
open Go.RowKit
theorem full (s:Sl) (a:Ads) (k q:Int) (W:World) (h:Held W s a) (hok:s.Ok) (hs:s.Short) (hg:s.greatB 600=false) (hT:Tab W) (hq:In64 q) :
  Calls Tryd.prog 4 #[slv s a,.int .i64 k,.int .i64 q] W fun e w'=>e=.returned (.bool true)/\Below W.heap.size W w':=by
 have HSh:=aq hs;have HGr:=aq hg;have c1:=aq (fun A V (hv:Held V s A) tv=>nFloorOf s A k V hv hok hs tv);have r1:=aq (fun A V (hv:Held V s A)=>r12Floor s A k V hv hok hs);obtain⟨v1,hv1⟩:∃ v,v=Sn.floorV s k:=⟨_,rfl⟩;obtain⟨e1,he1⟩:∃ v,v=Sn.floorE s k:=⟨_,rfl⟩;rw [<-hv1,<-he1] at c1 r1;clear hv1 he1;have c2:=aq (fun A V (hv:Held V s A) tv=>nCeilOf s A k V hv hok hs tv);have r2:=aq (fun A V (hv:Held V s A)=>r12Ceiling s A k V hv hok hs);obtain⟨v2,hv2⟩:∃ v,v=Sn.ceilV s k:=⟨_,rfl⟩;obtain⟨e2,he2⟩:∃ v,v=Sk.nextE s k:=⟨_,rfl⟩;rw [<-hv2,<-he2] at c2 r2;clear hv2 he2;have c3:=aq (fun A V (hv:Held V s A) tv=>nMin s A V hv hok hs tv);have r3:=aq (fun A V (hv:Held V s A)=>r12Min s A V hv hok hs);obtain⟨v3,hv3⟩:∃ v,v=Sn.minV s:=⟨_,rfl⟩;obtain⟨e3,he3⟩:∃ v,v=Sn.endE s:=⟨_,rfl⟩;rw [<-hv3,<-he3] at c3 r3;clear hv3 he3;have c4:=aq (fun A V (hv:Held V s A) tv=>nMax s A V hv hok hs tv);have r4:=aq (fun A V (hv:Held V s A)=>r12Max s A V hv hok hs);obtain⟨v4,hv4⟩:∃ v,v=Sn.maxV s:=⟨_,rfl⟩;obtain⟨e4,he4⟩:∃ v,v=Sn.endE s:=⟨_,rfl⟩;rw [<-hv4,<-he4] at c4 r4;clear hv4 he4;have c5:=aq (fun A V (hv:Held V s A) tv=>nSelect s A q V hv hok hs tv hq);have r5:=aq (fun A V (hv:Held V s A)=>r12Select s A q V hv hok hs);obtain⟨v5,hv5⟩:∃ v,v=Sn.selV s q:=⟨_,rfl⟩;obtain⟨e5,he5⟩:∃ v,v=Sn.selE s q:=⟨_,rfl⟩
 rw [<-hv5,<-he5] at c5 r5;clear hv5 he5;have HA:=aq h;have TB:=aq hT;have BS:=aq (Box.new W s a 27);have HB:=aq (fun o=>(Below.refl W.heap.size W).alloc (Nat.le_refl _) o);clear h hok hs hg hT hq;unfold slCells at BS;unfold slv pv at c1 c2 c3 c4 c5 r1 r2 r3 r4 r5;unfold slv
 go_enter Tryd.func4,Tryd.ntmps4
 go_wp2_with fail
 refine (r4Great s a 600 _).mono ?_;rintro e w0 ⟨rfl,hb⟩;rw [HGr.out];have BB:=aq ((HB.out _).trans (hb.mono (by simp)));replace BS:=aq (BS.out.below hb);replace HA:=aq (HA.out.below BB.out);replace TB:=aq (TB.out.below BB.out);clear hb HB;obtain⟨_,p0,p1,p2,p3,p4,p5,_⟩:=BS.out
 go_wp2_with fail
 refine (r4Twin s a _ HA.out HSh.out).mono ?_;rintro e w1 ⟨A1,rfl,own,_,_,hb⟩;have O1:=aq own.held;clear own;replace BS:=aq (BS.out.below hb);replace HA:=aq (HA.out.below hb);replace TB:=aq (TB.out.below hb);replace BB:=aq (BB.out.trans (hb.mono BB.out.size));clear hb p0 p1 p2 p3 p4 p5;unfold slv
 go_upto_region 4 with (fail)
 obtain⟨V0,hV⟩:∃ V,V=w1.alloc (.cells #[.int .i64 s.seg,.slice A1.w s.words.length A1.cw,.slice A1.k s.keys.length A1.ck,.slice A1.v s.vals.length A1.cv,.slice A1.c s.counts.length A1.cc,.int .u64 (s.laid:Int)] 27):=⟨_,rfl⟩
 have hba:Below w1.heap.size w1 V0:=by rw [hV];exact (Below.refl _ _).alloc (Nat.le_refl _) _
 have B1:=aq (show Box V0 w1.heap.size s A1 by rw [hV];exact Box.new w1 s A1 27);rw [<-hV];clear hV;replace BS:=aq (BS.out.below hba);replace HA:=aq (HA.out.below hba);replace TB:=aq (TB.out.below hba);replace O1:=aq (O1.out.below hba);replace BB:=aq (BB.out.trans (hba.mono BB.out.size));clear hba;obtain⟨_,p0,p1,p2,p3,p4,p5,_⟩:=B1.out
 go_wp2_with fail
 refine (c1.out A1 _ O1.out TB.out).mono ?_;rintro e x1 ⟨rfl,hb⟩;replace BS:=aq (BS.out.below hb);replace HA:=aq (HA.out.below hb);replace TB:=aq (TB.out.below hb);replace O1:=aq (O1.out.below hb);replace B1:=aq (B1.out.below hb);replace BB:=aq (BB.out.trans (hb.mono BB.out.size));clear hb p0 p1 p2 p3 p4 p5
 go_upto_region 5 with (fail)
 obtain⟨V2,hV⟩:∃ V,V=x1.alloc (.cells #[.int .i64 v1.1,.int .i64 v1.2] 32):=⟨_,rfl⟩
 have hba:Below x1.heap.size x1 V2:=by rw [hV];exact (Below.refl _ _).alloc (Nat.le_refl _) _
 have P1:=aq (show PBox V2 x1.heap.size v1 by rw [hV];exact PBox.new x1 v1 32);rw [<-hV];replace BS:=aq (BS.out.below hba);replace HA:=aq (HA.out.below hba);replace TB:=aq (TB.out.below hba);replace O1:=aq (O1.out.below hba);replace B1:=aq (B1.out.below hba);replace BB:=aq (BB.out.trans (hba.mono BB.out.size));clear hV hba;obtain⟨_,p0,p1,p2,p3,p4,p5,_⟩:=BS.out
 go_wp2_with fail
 refine (r1.out a _ HA.out).mono ?_;rintro e x3 ⟨rfl,hb⟩;replace BS:=aq (BS.out.below hb);replace HA:=aq (HA.out.below hb);replace TB:=aq (TB.out.below hb);replace O1:=aq (O1.out.below hb);replace B1:=aq (B1.out.below hb);replace P1:=aq (P1.out.below hb);replace BB:=aq (BB.out.trans (hb.mono BB.out.size));clear hb p0 p1 p2 p3 p4 p5
 go_upto_region 6 with (fail)
 obtain⟨V4,hV⟩:∃ V,V=x3.alloc (.cells #[.int .i64 v1.1,.int .i64 v1.2] 32):=⟨_,rfl⟩
 have hba:Below x3.heap.size x3 V4:=by rw [hV];exact (Below.refl _ _).alloc (Nat.le_refl _) _
 have Q1:=aq (show PBox V4 x3.heap.size v1 by rw [hV];exact PBox.new x3 v1 32);rw [<-hV];replace BS:=aq (BS.out.below hba);replace HA:=aq (HA.out.below hba);replace TB:=aq (TB.out.below hba);replace O1:=aq (O1.out.below hba);replace B1:=aq (B1.out.below hba);replace P1:=aq (P1.out.below hba);replace BB:=aq (BB.out.trans (hba.mono BB.out.size));clear hV hba;obtain⟨_,p0,p1,p2,p3,p4,p5,_⟩:=B1.out
 go_wp2_with fail
 refine (c2.out A1 _ O1.out TB.out).mono ?_;rintro e x5 ⟨rfl,hb⟩;replace BS:=aq (BS.out.below hb);replace HA:=aq (HA.out.below hb);replace TB:=aq (TB.out.below hb);replace O1:=aq (O1.out.below hb);replace B1:=aq (B1.out.below hb);replace P1:=aq (P1.out.below hb);replace Q1:=aq (Q1.out.below hb);replace BB:=aq (BB.out.trans (hb.mono BB.out.size));clear hb p0 p1 p2 p3 p4 p5
 go_upto_region 7 with (fail)
 obtain⟨V6,hV⟩:∃ V,V=x5.alloc (.cells #[.int .i64 v2.1,.int .i64 v2.2] 32):=⟨_,rfl⟩
 have hba:Below x5.heap.size x5 V6:=by rw [hV];exact (Below.refl _ _).alloc (Nat.le_refl _) _
 have P2:=aq (show PBox V6 x5.heap.size v2 by rw [hV];exact PBox.new x5 v2 32);rw [<-hV];replace BS:=aq (BS.out.below hba);replace HA:=aq (HA.out.below hba);replace TB:=aq (TB.out.below hba);replace O1:=aq (O1.out.below hba);replace B1:=aq (B1.out.below hba);replace P1:=aq (P1.out.below hba);replace Q1:=aq (Q1.out.below hba);replace BB:=aq (BB.out.trans (hba.mono BB.out.size));clear hV hba;obtain⟨_,p0,p1,p2,p3,p4,p5,_⟩:=BS.out
 go_wp2_with fail
 refine (r2.out a _ HA.out).mono ?_;rintro e x7 ⟨rfl,hb⟩;replace BS:=aq (BS.out.below hb);replace HA:=aq (HA.out.below hb);replace TB:=aq (TB.out.below hb);replace O1:=aq (O1.out.below hb);replace B1:=aq (B1.out.below hb);replace P1:=aq (P1.out.below hb);replace Q1:=aq (Q1.out.below hb);replace P2:=aq (P2.out.below hb);replace BB:=aq (BB.out.trans (hb.mono BB.out.size));clear hb p0 p1 p2 p3 p4 p5
 go_upto_region 8 with (fail)
 obtain⟨V8,hV⟩:∃ V,V=x7.alloc (.cells #[.int .i64 v2.1,.int .i64 v2.2] 32):=⟨_,rfl⟩
 have hba:Below x7.heap.size x7 V8:=by rw [hV];exact (Below.refl _ _).alloc (Nat.le_refl _) _
 have Q2:=aq (show PBox V8 x7.heap.size v2 by rw [hV];exact PBox.new x7 v2 32);rw [<-hV];replace BS:=aq (BS.out.below hba);replace HA:=aq (HA.out.below hba);replace TB:=aq (TB.out.below hba);replace O1:=aq (O1.out.below hba);replace B1:=aq (B1.out.below hba);replace P1:=aq (P1.out.below hba);replace Q1:=aq (Q1.out.below hba);replace P2:=aq (P2.out.below hba);replace BB:=aq (BB.out.trans (hba.mono BB.out.size));clear hV hba;obtain⟨_,p0,p1,p2,p3,p4,p5,_⟩:=B1.out
 go_wp2_with fail
 refine (c3.out A1 _ O1.out TB.out).mono ?_;rintro e x9 ⟨rfl,hb⟩;replace BS:=aq (BS.out.below hb);replace HA:=aq (HA.out.below hb);replace TB:=aq (TB.out.below hb);replace O1:=aq (O1.out.below hb);replace B1:=aq (B1.out.below hb);replace P1:=aq (P1.out.below hb);replace Q1:=aq (Q1.out.below hb);replace P2:=aq (P2.out.below hb);replace Q2:=aq (Q2.out.below hb);replace BB:=aq (BB.out.trans (hb.mono BB.out.size));clear hb p0 p1 p2 p3 p4 p5
 go_upto_region 9 with (fail)
 obtain⟨V10,hV⟩:∃ V,V=x9.alloc (.cells #[.int .i64 v3.1,.int .i64 v3.2] 32):=⟨_,rfl⟩
 have hba:Below x9.heap.size x9 V10:=by rw [hV];exact (Below.refl _ _).alloc (Nat.le_refl _) _
 have P3:=aq (show PBox V10 x9.heap.size v3 by rw [hV];exact PBox.new x9 v3 32);rw [<-hV];replace BS:=aq (BS.out.below hba);replace HA:=aq (HA.out.below hba);replace TB:=aq (TB.out.below hba);replace O1:=aq (O1.out.below hba);replace B1:=aq (B1.out.below hba);replace P1:=aq (P1.out.below hba);replace Q1:=aq (Q1.out.below hba);replace P2:=aq (P2.out.below hba);replace Q2:=aq (Q2.out.below hba);replace BB:=aq (BB.out.trans (hba.mono BB.out.size));clear hV hba;obtain⟨_,p0,p1,p2,p3,p4,p5,_⟩:=BS.out
 go_wp2_with fail
 refine (r3.out a _ HA.out).mono ?_;rintro e x11 ⟨rfl,hb⟩;replace BS:=aq (BS.out.below hb);replace HA:=aq (HA.out.below hb);replace TB:=aq (TB.out.below hb);replace O1:=aq (O1.out.below hb);replace B1:=aq (B1.out.below hb);replace P1:=aq (P1.out.below hb);replace Q1:=aq (Q1.out.below hb);replace P2:=aq (P2.out.below hb);replace Q2:=aq (Q2.out.below hb);replace P3:=aq (P3.out.below hb);replace BB:=aq (BB.out.trans (hb.mono BB.out.size));clear hb p0 p1 p2 p3 p4 p5
 go_upto_region 10 with (fail)
 obtain⟨V12,hV⟩:∃ V,V=x11.alloc (.cells #[.int .i64 v3.1,.int .i64 v3.2] 32):=⟨_,rfl⟩
 have hba:Below x11.heap.size x11 V12:=by rw [hV];exact (Below.refl _ _).alloc (Nat.le_refl _) _
 have Q3:=aq (show PBox V12 x11.heap.size v3 by rw [hV];exact PBox.new x11 v3 32);rw [<-hV];replace BS:=aq (BS.out.below hba);replace HA:=aq (HA.out.below hba);replace TB:=aq (TB.out.below hba);replace O1:=aq (O1.out.below hba);replace B1:=aq (B1.out.below hba);replace P1:=aq (P1.out.below hba);replace Q1:=aq (Q1.out.below hba);replace P2:=aq (P2.out.below hba);replace Q2:=aq (Q2.out.below hba);replace P3:=aq (P3.out.below hba);replace BB:=aq (BB.out.trans (hba.mono BB.out.size));clear hV hba;obtain⟨_,p0,p1,p2,p3,p4,p5,_⟩:=B1.out
 go_wp2_with fail
 refine (c4.out A1 _ O1.out TB.out).mono ?_;rintro e x13 ⟨rfl,hb⟩;replace BS:=aq (BS.out.below hb);replace HA:=aq (HA.out.below hb);replace TB:=aq (TB.out.below hb);replace O1:=aq (O1.out.below hb);replace B1:=aq (B1.out.below hb);replace P1:=aq (P1.out.below hb);replace Q1:=aq (Q1.out.below hb);replace P2:=aq (P2.out.below hb);replace Q2:=aq (Q2.out.below hb);replace P3:=aq (P3.out.below hb);replace Q3:=aq (Q3.out.below hb);replace BB:=aq (BB.out.trans (hb.mono BB.out.size));clear hb p0 p1 p2 p3 p4 p5
 go_upto_region 11 with (fail)
 obtain⟨V14,hV⟩:∃ V,V=x13.alloc (.cells #[.int .i64 v4.1,.int .i64 v4.2] 32):=⟨_,rfl⟩
 have hba:Below x13.heap.size x13 V14:=by rw [hV];exact (Below.refl _ _).alloc (Nat.le_refl _) _
 have P4:=aq (show PBox V14 x13.heap.size v4 by rw [hV];exact PBox.new x13 v4 32);rw [<-hV];replace BS:=aq (BS.out.below hba);replace HA:=aq (HA.out.below hba);replace TB:=aq (TB.out.below hba);replace O1:=aq (O1.out.below hba);replace B1:=aq (B1.out.below hba);replace P1:=aq (P1.out.below hba);replace Q1:=aq (Q1.out.below hba);replace P2:=aq (P2.out.below hba);replace Q2:=aq (Q2.out.below hba);replace P3:=aq (P3.out.below hba);replace Q3:=aq (Q3.out.below hba);replace BB:=aq (BB.out.trans (hba.mono BB.out.size));clear hV hba;obtain⟨_,p0,p1,p2,p3,p4,p5,_⟩:=BS.out
 go_wp2_with fail
 refine (r4.out a _ HA.out).mono ?_;rintro e x15 ⟨rfl,hb⟩;replace BS:=aq (BS.out.below hb);replace HA:=aq (HA.out.below hb);replace TB:=aq (TB.out.below hb);replace O1:=aq (O1.out.below hb);replace B1:=aq (B1.out.below hb);replace P1:=aq (P1.out.below hb);replace Q1:=aq (Q1.out.below hb);replace P2:=aq (P2.out.below hb);replace Q2:=aq (Q2.out.below hb);replace P3:=aq (P3.out.below hb);replace Q3:=aq (Q3.out.below hb);replace P4:=aq (P4.out.below hb);replace BB:=aq (BB.out.trans (hb.mono BB.out.size));clear hb p0 p1 p2 p3 p4 p5
 go_upto_region 12 with (fail)
 obtain⟨V16,hV⟩:∃ V,V=x15.alloc (.cells #[.int .i64 v4.1,.int .i64 v4.2] 32):=⟨_,rfl⟩
 have hba:Below x15.heap.size x15 V16:=by rw [hV];exact (Below.refl _ _).alloc (Nat.le_refl _) _
 have Q4:=aq (show PBox V16 x15.heap.size v4 by rw [hV];exact PBox.new x15 v4 32);rw [<-hV];replace BS:=aq (BS.out.below hba);replace HA:=aq (HA.out.below hba);replace TB:=aq (TB.out.below hba);replace O1:=aq (O1.out.below hba);replace B1:=aq (B1.out.below hba);replace P1:=aq (P1.out.below hba);replace Q1:=aq (Q1.out.below hba);replace P2:=aq (P2.out.below hba);replace Q2:=aq (Q2.out.below hba);replace P3:=aq (P3.out.below hba);replace Q3:=aq (Q3.out.below hba);replace P4:=aq (P4.out.below hba);replace BB:=aq (BB.out.trans (hba.mono BB.out.size));clear hV hba;obtain⟨_,p0,p1,p2,p3,p4,p5,_⟩:=B1.out
 go_wp2_with fail
 refine (c5.out A1 _ O1.out TB.out).mono ?_;rintro e x17 ⟨rfl,hb⟩;replace BS:=aq (BS.out.below hb);replace HA:=aq (HA.out.below hb);replace TB:=aq (TB.out.below hb);replace O1:=aq (O1.out.below hb);replace B1:=aq (B1.out.below hb);replace P1:=aq (P1.out.below hb);replace Q1:=aq (Q1.out.below hb);replace P2:=aq (P2.out.below hb);replace Q2:=aq (Q2.out.below hb);replace P3:=aq (P3.out.below hb);replace Q3:=aq (Q3.out.below hb);replace P4:=aq (P4.out.below hb);replace Q4:=aq (Q4.out.below hb);replace BB:=aq (BB.out.trans (hb.mono BB.out.size));clear hb p0 p1 p2 p3 p4 p5
 go_upto_region 13 with (fail)
 obtain⟨V18,hV⟩:∃ V,V=x17.alloc (.cells #[.int .i64 v5.1,.int .i64 v5.2] 32):=⟨_,rfl⟩
 have hba:Below x17.heap.size x17 V18:=by rw [hV];exact (Below.refl _ _).alloc (Nat.le_refl _) _
 have P5:=aq (show PBox V18 x17.heap.size v5 by rw [hV];exact PBox.new x17 v5 32);rw [<-hV];replace BS:=aq (BS.out.below hba);replace HA:=aq (HA.out.below hba);replace TB:=aq (TB.out.below hba);replace O1:=aq (O1.out.below hba);replace B1:=aq (B1.out.below hba);replace P1:=aq (P1.out.below hba);replace Q1:=aq (Q1.out.below hba);replace P2:=aq (P2.out.below hba);replace Q2:=aq (Q2.out.below hba);replace P3:=aq (P3.out.below hba);replace Q3:=aq (Q3.out.below hba);replace P4:=aq (P4.out.below hba);replace Q4:=aq (Q4.out.below hba);replace BB:=aq (BB.out.trans (hba.mono BB.out.size));clear hV hba;obtain⟨_,p0,p1,p2,p3,p4,p5,_⟩:=BS.out
 go_wp2_with fail
 refine (r5.out a _ HA.out).mono ?_;rintro e x19 ⟨rfl,hb⟩;replace BS:=aq (BS.out.below hb);replace HA:=aq (HA.out.below hb);replace TB:=aq (TB.out.below hb);replace O1:=aq (O1.out.below hb);replace B1:=aq (B1.out.below hb);replace P1:=aq (P1.out.below hb);replace Q1:=aq (Q1.out.below hb);replace P2:=aq (P2.out.below hb);replace Q2:=aq (Q2.out.below hb);replace P3:=aq (P3.out.below hb);replace Q3:=aq (Q3.out.below hb);replace P4:=aq (P4.out.below hb);replace Q4:=aq (Q4.out.below hb);replace P5:=aq (P5.out.below hb);replace BB:=aq (BB.out.trans (hb.mono BB.out.size));clear hb p0 p1 p2 p3 p4 p5
 go_upto_region 14 with (fail)
 obtain⟨V20,hV⟩:∃ V,V=x19.alloc (.cells #[.int .i64 v5.1,.int .i64 v5.2] 32):=⟨_,rfl⟩
 have hba:Below x19.heap.size x19 V20:=by rw [hV];exact (Below.refl _ _).alloc (Nat.le_refl _) _
 have Q5:=aq (show PBox V20 x19.heap.size v5 by rw [hV];exact PBox.new x19 v5 32);rw [<-hV];replace BS:=aq (BS.out.below hba);replace HA:=aq (HA.out.below hba);replace TB:=aq (TB.out.below hba);replace O1:=aq (O1.out.below hba);replace B1:=aq (B1.out.below hba);replace P1:=aq (P1.out.below hba);replace Q1:=aq (Q1.out.below hba);replace P2:=aq (P2.out.below hba);replace Q2:=aq (Q2.out.below hba);replace P3:=aq (P3.out.below hba);replace Q3:=aq (Q3.out.below hba);replace P4:=aq (P4.out.below hba);replace Q4:=aq (Q4.out.below hba);replace P5:=aq (P5.out.below hba);replace BB:=aq (BB.out.trans (hba.mono BB.out.size));clear hV hba;obtain⟨_,a1,b1,_⟩:=P1.out;obtain⟨_,c1',d1',_⟩:=Q1.out;obtain⟨_,a2,b2,_⟩:=P2.out;obtain⟨_,c2',d2',_⟩:=Q2.out;obtain⟨_,a3,b3,_⟩:=P3.out;obtain⟨_,c3',d3',_⟩:=Q3.out;obtain⟨_,a4,b4,_⟩:=P4.out;obtain⟨_,c4',d4',_⟩:=Q4.out;obtain⟨_,a5,b5,_⟩:=P5.out;obtain⟨_,c5',d5',_⟩:=Q5.out;obtain⟨_,p0,p1,p2,p3,p4,p5,_⟩:=BS.out;obtain⟨_,q0,q1,q2,q3,q4,q5,_⟩:=B1.out
 go_wp2_with fail
 refine (r4Same s s A1 a _ O1.out HA.out HSh.out HSh.out).mono ?_;rintro e z ⟨rfl,hb⟩;rw [same_self];have HZ:=aq (BB.out.trans (hb.mono BB.out.size));clear hb;go_wp2;go_ret;exact⟨rfl,HZ.out⟩
theorem walk (s:Sl) (a:Ads) (k q:Int) (W:World) (h:Held W s a) (hok:s.Ok) (hT:Tab W) (hq:In64 q) :
  Calls Tryd.prog 4 #[slv s a,.int .i64 k,.int .i64 q] W fun e w'=>e=.returned (.bool true)/\Below W.heap.size W w':=by
 cases hg:s.greatB 600
 ·refine full s a k q W h hok ?_ hg hT hq
  unfold Sl.greatB at hg
  simp only [Bool.or_eq_false_iff,decide_eq_false_iff_not] at hg
  exact⟨by omega,by omega,by omega,by omega⟩
 ·have HG:=aq hg
  have HB:=aq (fun o=>(Below.refl W.heap.size W).alloc (Nat.le_refl _) o);clear h hok hg hT hq;unfold slv
  go_enter Tryd.func4,Tryd.ntmps4
  go_wp2_with fail
  refine (r4Great s a 600 _).mono ?_;rintro e w0 ⟨rfl,hb⟩;rw [HG.out];go_wp2;go_ret;exact⟨rfl,(HB.out _).trans (hb.mono (by simp))⟩
end Go.Proofs.YtfdpkmafemidjaaDoor.spanTells
