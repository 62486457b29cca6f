/- The walk of the law SpanBetween: between a floor and a ceiling there is no key, and they are neighbours by their numbers. -/
import Derived.Test.YtfdpkmafemidjaaDoorLaw12Sp
import Derived.Test.YtfdpkmafemidjaaDoorM03Sp
import Derived.Test.YtfdpkmafemidjaaDoorPlain12bSp
import Derived.Test.YtfdpkmafemidjaaDoorTkSp
set_option linter.unusedVariables false
set_option linter.unusedSimpArgs false
set_option maxHeartbeats 16000000
set_option maxRecDepth 100000
namespace Go.Proofs.YtfdpkmafemidjaaDoor.spanBetween
open Go.RowKit
theorem bad (s:Sl) (a:Ads) (k:Int) (W:World) (h:Held W s a) (hok:s.Ok) (hs:s.Short) (hg:s.greatB 600=false) (hT:Tab W) (hc:¬ Sk.chkE s=0) :
  Calls Tryd.prog 7 #[slv s a,.int .i64 k] W fun e w'=>e=.returned (.bool true)/\Below W.heap.size W w':=by
 have HGr:=aq hg;have HA:=aq h;have TB:=aq hT;have BS:=aq (Box.new W s a 27);have HB:=aq (fun o=>(Below.refl W.heap.size W).alloc (Nat.le_refl _) o);have CA:=aq (fun o=>l12Alive (W.alloc o) (hT.below (HB.out o)));have c1:=aq (fun A V (hv:Held V s A) tv=>kRank s A k V hv hok hs tv);have c2:=aq (fun A V (hv:Held V s A) tv=>nFloorOf s A k V hv hok hs tv);have c3:=aq (fun A V (hv:Held V s A) tv=>nCeilOf s A k V hv hok hs tv)
 have f1:Sn.floorE s k=Sk.chkE s:=by unfold Sn.floorE;rw [if_neg hc]
 have f2:Sk.nextE s k=Sk.chkE s:=by unfold Sk.nextE;rw [if_neg hc]
 rw [f1] at c2;rw [f2] at c3;obtain⟨E,hE⟩:∃ x,x=Sk.chkE s:=⟨_,rfl⟩;rw [<-hE] at c1 c2 c3 hc;obtain⟨fa,hfa⟩:∃ x,x=Sn.floorV s k:=⟨_,rfl⟩;rw [<-hfa] at c2;obtain⟨cb,hcb⟩:∃ x,x=Sn.ceilV s k:=⟨_,rfl⟩;rw [<-hcb] at c3;obtain⟨r,hr⟩:∃ x,x=Sk.rankV s k:=⟨_,rfl⟩;rw [<-hr] at c1
 have k1:(E != 0)=true:=by simp [hc]
 clear h hok hs hg hT f1 f2 hE hfa hcb hr hc;unfold slv at c1;unfold slv pv at c2 c3;unfold slCells at BS;unfold slv
 go_enter Tryd.func7,Tryd.ntmps7
 go_wp2_with fail
 refine (CA.out _).mono ?_;rintro e w0 ⟨rfl,hb⟩;have BB:=aq ((HB.out _).trans (hb.mono (by simp)));replace BS:=aq (BS.out.below hb);replace HA:=aq (HA.out.below BB.out);replace TB:=aq (TB.out.below BB.out);clear hb HB CA;obtain⟨_,p0,p1,p2,p3,p4,p5,_⟩:=BS.out
 go_wp2_with fail
 refine (r4Great s a 600 _).mono ?_;rintro e w1 ⟨rfl,hb⟩;rw [HGr.out];replace BS:=aq (BS.out.below hb);replace HA:=aq (HA.out.below hb);replace TB:=aq (TB.out.below hb);replace BB:=aq (BB.out.trans (hb.mono BB.out.size));clear hb p0 p1 p2 p3 p4 p5;obtain⟨_,p0,p1,p2,p3,p4,p5,_⟩:=BS.out
 go_wp2_with fail
 refine (c1.out a _ HA.out TB.out).mono ?_;rintro e x1 ⟨rfl,hb⟩;replace BS:=aq (BS.out.below hb);replace HA:=aq (HA.out.below hb);replace TB:=aq (TB.out.below hb);replace BB:=aq (BB.out.trans (hb.mono BB.out.size));clear hb p0 p1 p2 p3 p4 p5;obtain⟨_,p0,p1,p2,p3,p4,p5,_⟩:=BS.out
 go_wp2_with fail
 refine (c2.out a _ HA.out TB.out).mono ?_;rintro e x2 ⟨rfl,hb⟩;replace BS:=aq (BS.out.below hb);replace HA:=aq (HA.out.below hb);replace TB:=aq (TB.out.below hb);replace BB:=aq (BB.out.trans (hb.mono BB.out.size));clear hb p0 p1 p2 p3 p4 p5
 go_upto_region 6 with (fail)
 obtain⟨V3,hV⟩:∃ V,V=x2.alloc (.cells #[.int .i64 fa.1,.int .i64 fa.2] 32):=⟨_,rfl⟩
 have hba:Below x2.heap.size x2 V3:=by rw [hV];exact (Below.refl _ _).alloc (Nat.le_refl _) _
 have P2:=aq (show PBox V3 x2.heap.size fa by rw [hV];exact PBox.new x2 fa 32);rw [<-hV];replace BS:=aq (BS.out.below hba);replace HA:=aq (HA.out.below hba);replace TB:=aq (TB.out.below hba);replace BB:=aq (BB.out.trans (hba.mono BB.out.size));clear hV hba;obtain⟨_,p0,p1,p2,p3,p4,p5,_⟩:=BS.out
 go_wp2_with fail
 refine (c3.out a _ HA.out TB.out).mono ?_;rintro e x4 ⟨rfl,hb⟩;replace BS:=aq (BS.out.below hb);replace HA:=aq (HA.out.below hb);replace TB:=aq (TB.out.below hb);replace P2:=aq (P2.out.below hb);replace BB:=aq (BB.out.trans (hb.mono BB.out.size));clear hb p0 p1 p2 p3 p4 p5
 go_upto_region 7 with (fail)
 obtain⟨V5,hV⟩:∃ V,V=x4.alloc (.cells #[.int .i64 cb.1,.int .i64 cb.2] 32):=⟨_,rfl⟩
 have hba:Below x4.heap.size x4 V5:=by rw [hV];exact (Below.refl _ _).alloc (Nat.le_refl _) _
 have P3:=aq (show PBox V5 x4.heap.size cb by rw [hV];exact PBox.new x4 cb 32);rw [<-hV];replace BS:=aq (BS.out.below hba);replace HA:=aq (HA.out.below hba);replace TB:=aq (TB.out.below hba);replace P2:=aq (P2.out.below hba);replace BB:=aq (BB.out.trans (hba.mono BB.out.size));clear hV hba;go_wp2;go_ret;exact⟨rfl,BB.out⟩
theorem there (s:Sl) (a:Ads) (k:Int) (W:World) (h:Held W s a) (hok:s.Ok) (hs:s.Short) (hg:s.greatB 600=false) (hT:Tab W) (hc:Sk.chkE s=0) (f1:Sn.floorE s k=0) (f2:Sk.nextE s k=0) (f3:Sn.floorV s k=Sn.ceilV s k) (f4:(Sn.floorV s k).1=k) :
  Calls Tryd.prog 7 #[slv s a,.int .i64 k] W fun e w'=>e=.returned (.bool true)/\Below W.heap.size W w':=by
 have HGr:=aq hg;have HA:=aq h;have TB:=aq hT;have BS:=aq (Box.new W s a 27);have HB:=aq (fun o=>(Below.refl W.heap.size W).alloc (Nat.le_refl _) o);have CA:=aq (fun o=>l12Alive (W.alloc o) (hT.below (HB.out o)));have c1:=aq (fun A V (hv:Held V s A) tv=>kRank s A k V hv hok hs tv);have c2:=aq (fun A V (hv:Held V s A) tv=>nFloorOf s A k V hv hok hs tv);have c3:=aq (fun A V (hv:Held V s A) tv=>nCeilOf s A k V hv hok hs tv);rw [hc] at c1;rw [f1] at c2;rw [f2,<-f3] at c3;obtain⟨fa,hfa⟩:∃ x,x=Sn.floorV s k:=⟨_,rfl⟩;rw [<-hfa] at c2 c3 f4;obtain⟨r,hr⟩:∃ x,x=Sk.rankV s k:=⟨_,rfl⟩;rw [<-hr] at c1
 have k1:(fa.1==k)=true:=by simp [f4]
 clear h hok hs hg hT f1 f2 f3 f4 hfa hr hc;unfold slv at c1;unfold slv pv at c2 c3;unfold slCells at BS;unfold slv
 go_enter Tryd.func7,Tryd.ntmps7
 go_wp2_with fail
 refine (CA.out _).mono ?_;rintro e w0 ⟨rfl,hb⟩;have BB:=aq ((HB.out _).trans (hb.mono (by simp)));replace BS:=aq (BS.out.below hb);replace HA:=aq (HA.out.below BB.out);replace TB:=aq (TB.out.below BB.out);clear hb HB CA;obtain⟨_,p0,p1,p2,p3,p4,p5,_⟩:=BS.out
 go_wp2_with fail
 refine (r4Great s a 600 _).mono ?_;rintro e w1 ⟨rfl,hb⟩;rw [HGr.out];replace BS:=aq (BS.out.below hb);replace HA:=aq (HA.out.below hb);replace TB:=aq (TB.out.below hb);replace BB:=aq (BB.out.trans (hb.mono BB.out.size));clear hb p0 p1 p2 p3 p4 p5;obtain⟨_,p0,p1,p2,p3,p4,p5,_⟩:=BS.out
 go_wp2_with fail
 refine (c1.out a _ HA.out TB.out).mono ?_;rintro e x1 ⟨rfl,hb⟩;replace BS:=aq (BS.out.below hb);replace HA:=aq (HA.out.below hb);replace TB:=aq (TB.out.below hb);replace BB:=aq (BB.out.trans (hb.mono BB.out.size));clear hb p0 p1 p2 p3 p4 p5;obtain⟨_,p0,p1,p2,p3,p4,p5,_⟩:=BS.out
 go_wp2_with fail
 refine (c2.out a _ HA.out TB.out).mono ?_;rintro e x2 ⟨rfl,hb⟩;replace BS:=aq (BS.out.below hb);replace HA:=aq (HA.out.below hb);replace TB:=aq (TB.out.below hb);replace BB:=aq (BB.out.trans (hb.mono BB.out.size));clear hb p0 p1 p2 p3 p4 p5
 go_upto_region 6 with (fail)
 obtain⟨V3,hV⟩:∃ V,V=x2.alloc (.cells #[.int .i64 fa.1,.int .i64 fa.2] 32):=⟨_,rfl⟩
 have hba:Below x2.heap.size x2 V3:=by rw [hV];exact (Below.refl _ _).alloc (Nat.le_refl _) _
 have P2:=aq (show PBox V3 x2.heap.size fa by rw [hV];exact PBox.new x2 fa 32);rw [<-hV];replace BS:=aq (BS.out.below hba);replace HA:=aq (HA.out.below hba);replace TB:=aq (TB.out.below hba);replace BB:=aq (BB.out.trans (hba.mono BB.out.size));clear hV hba;obtain⟨_,p0,p1,p2,p3,p4,p5,_⟩:=BS.out
 go_wp2_with fail
 refine (c3.out a _ HA.out TB.out).mono ?_;rintro e x4 ⟨rfl,hb⟩;replace BS:=aq (BS.out.below hb);replace HA:=aq (HA.out.below hb);replace TB:=aq (TB.out.below hb);replace P2:=aq (P2.out.below hb);replace BB:=aq (BB.out.trans (hb.mono BB.out.size));clear hb p0 p1 p2 p3 p4 p5
 go_upto_region 7 with (fail)
 obtain⟨V5,hV⟩:∃ V,V=x4.alloc (.cells #[.int .i64 fa.1,.int .i64 fa.2] 32):=⟨_,rfl⟩
 have hba:Below x4.heap.size x4 V5:=by rw [hV];exact (Below.refl _ _).alloc (Nat.le_refl _) _
 have P3:=aq (show PBox V5 x4.heap.size fa by rw [hV];exact PBox.new x4 fa 32);rw [<-hV];replace BS:=aq (BS.out.below hba);replace HA:=aq (HA.out.below hba);replace TB:=aq (TB.out.below hba);replace P2:=aq (P2.out.below hba);replace BB:=aq (BB.out.trans (hba.mono BB.out.size));clear hV hba;have a2:=P2.out.c0;have b2:=P2.out.c1;have a3:=P3.out.c0;have b3:=P3.out.c1;go_wp2;go_ret;exact⟨rfl,BB.out⟩
theorem apart (s:Sl) (a:Ads) (k:Int) (W:World) (h:Held W s a) (hok:s.Ok) (hs:s.Short) (hg:s.greatB 600=false) (hT:Tab W) (hc:Sk.chkE s=0) (hf:(Sn.floorE s k=0/\Sn.selE s (Sk.rankV s k-1)=0/\(Sn.floorV s k).1 < k)∨(Sn.floorE s k≠0/\Sn.selE s (Sk.rankV s k-1)≠0)) (hd:(Sk.nextE s k=0/\Sn.selE s (Sk.rankV s k)=0/\k < (Sn.ceilV s k).1)∨(Sk.nextE s k≠0/\Sn.selE s (Sk.rankV s k)≠0))
  (v1:Sn.floorV s k=Sn.selV s (Sk.rankV s k-1)) (v2:Sn.ceilV s k=Sn.selV s (Sk.rankV s k)) :
  Calls Tryd.prog 7 #[slv s a,.int .i64 k] W fun e w'=>e=.returned (.bool true)/\Below W.heap.size W w':=by
 have HGr:=aq hg;have HA:=aq h;have TB:=aq hT;have BS:=aq (Box.new W s a 27);have HB:=aq (fun o=>(Below.refl W.heap.size W).alloc (Nat.le_refl _) o);have CA:=aq (fun o=>l12Alive (W.alloc o) (hT.below (HB.out o)))
 have hr:0<=Sk.rankV s k/\Sk.rankV s k<=65536:=by
  have e:Sk.rankV s k=((Sk.low s k).length:Int):=by unfold Sk.rankV;rw [if_pos hc]
  have:=Sk.low_le s k;have:=hs.keys
  omega
 have hw:IntKind.i64.wrap (Sk.rankV s k-1)=Sk.rankV s k-1:=IntWalk.i64_in _ (by omega);have q1:In64 (Sk.rankV s k-1):=⟨by omega,by omega⟩;have q2:In64 (Sk.rankV s k):=⟨by omega,by omega⟩;have c1:=aq (fun A V (hv:Held V s A) tv=>kRank s A k V hv hok hs tv);have c2:=aq (fun A V (hv:Held V s A) tv=>nFloorOf s A k V hv hok hs tv);have c3:=aq (fun A V (hv:Held V s A) tv=>nCeilOf s A k V hv hok hs tv);have c4:=aq (fun A V (hv:Held V s A) tv=>nSelect s A (Sk.rankV s k-1) V hv hok hs tv q1);have c5:=aq (fun A V (hv:Held V s A) tv=>nSelect s A (Sk.rankV s k) V hv hok hs tv q2);rw [hc] at c1;rw [<-v1] at c4;rw [<-v2] at c5;obtain⟨E1,hE1⟩:∃ x,x=Sn.selE s (Sk.rankV s k-1):=⟨_,rfl⟩;rw [<-hE1] at c4 hf;obtain⟨E2,hE2⟩:∃ x,x=Sn.selE s (Sk.rankV s k):=⟨_,rfl⟩;rw [<-hE2] at c5 hd;obtain⟨F1,hF1⟩:∃ x,x=Sn.floorE s k:=⟨_,rfl⟩;rw [<-hF1] at c2 hf;obtain⟨F2,hF2⟩:∃ x,x=Sk.nextE s k:=⟨_,rfl⟩;rw [<-hF2] at c3 hd;obtain⟨fa,hfa⟩:∃ x,x=Sn.floorV s k:=⟨_,rfl⟩;rw [<-hfa] at c2 c4 hf;obtain⟨cb,hcb⟩:∃ x,x=Sn.ceilV s k:=⟨_,rfl⟩;rw [<-hcb] at c3 c5 hd;obtain⟨r,hr⟩:∃ x,x=Sk.rankV s k:=⟨_,rfl⟩;rw [<-hr] at c1 c4 c5 hw;have HF:=aq hf;have HD:=aq hd;clear h hok hs hg hT hc hf hd v1 v2 hE1 hE2 hF1 hF2 hfa hcb hr q1 q2;unfold slv at c1;unfold slv pv at c2 c3 c4 c5;unfold slCells at BS;unfold slv
 go_enter Tryd.func7,Tryd.ntmps7
 go_wp2_with fail
 refine (CA.out _).mono ?_;rintro e w0 ⟨rfl,hb⟩;have BB:=aq ((HB.out _).trans (hb.mono (by simp)));replace BS:=aq (BS.out.below hb);replace HA:=aq (HA.out.below BB.out);replace TB:=aq (TB.out.below BB.out);clear hb HB CA;obtain⟨_,p0,p1,p2,p3,p4,p5,_⟩:=BS.out
 go_wp2_with fail
 refine (r4Great s a 600 _).mono ?_;rintro e w1 ⟨rfl,hb⟩;rw [HGr.out];replace BS:=aq (BS.out.below hb);replace HA:=aq (HA.out.below hb);replace TB:=aq (TB.out.below hb);replace BB:=aq (BB.out.trans (hb.mono BB.out.size));clear hb p0 p1 p2 p3 p4 p5;obtain⟨_,p0,p1,p2,p3,p4,p5,_⟩:=BS.out
 go_wp2_with fail
 refine (c1.out a _ HA.out TB.out).mono ?_;rintro e x1 ⟨rfl,hb⟩;replace BS:=aq (BS.out.below hb);replace HA:=aq (HA.out.below hb);replace TB:=aq (TB.out.below hb);replace BB:=aq (BB.out.trans (hb.mono BB.out.size));clear hb p0 p1 p2 p3 p4 p5;obtain⟨_,p0,p1,p2,p3,p4,p5,_⟩:=BS.out
 go_wp2_with fail
 refine (c2.out a _ HA.out TB.out).mono ?_;rintro e x2 ⟨rfl,hb⟩;replace BS:=aq (BS.out.below hb);replace HA:=aq (HA.out.below hb);replace TB:=aq (TB.out.below hb);replace BB:=aq (BB.out.trans (hb.mono BB.out.size));clear hb p0 p1 p2 p3 p4 p5
 go_upto_region 6 with (fail)
 obtain⟨V3,hV⟩:∃ V,V=x2.alloc (.cells #[.int .i64 fa.1,.int .i64 fa.2] 32):=⟨_,rfl⟩
 have hba:Below x2.heap.size x2 V3:=by rw [hV];exact (Below.refl _ _).alloc (Nat.le_refl _) _
 have P2:=aq (show PBox V3 x2.heap.size fa by rw [hV];exact PBox.new x2 fa 32);rw [<-hV];replace BS:=aq (BS.out.below hba);replace HA:=aq (HA.out.below hba);replace TB:=aq (TB.out.below hba);replace BB:=aq (BB.out.trans (hba.mono BB.out.size));clear hV hba;obtain⟨_,p0,p1,p2,p3,p4,p5,_⟩:=BS.out
 go_wp2_with fail
 refine (c3.out a _ HA.out TB.out).mono ?_;rintro e x4 ⟨rfl,hb⟩;replace BS:=aq (BS.out.below hb);replace HA:=aq (HA.out.below hb);replace TB:=aq (TB.out.below hb);replace P2:=aq (P2.out.below hb);replace BB:=aq (BB.out.trans (hb.mono BB.out.size));clear hb p0 p1 p2 p3 p4 p5
 go_upto_region 7 with (fail)
 obtain⟨V5,hV⟩:∃ V,V=x4.alloc (.cells #[.int .i64 cb.1,.int .i64 cb.2] 32):=⟨_,rfl⟩
 have hba:Below x4.heap.size x4 V5:=by rw [hV];exact (Below.refl _ _).alloc (Nat.le_refl _) _
 have P3:=aq (show PBox V5 x4.heap.size cb by rw [hV];exact PBox.new x4 cb 32);rw [<-hV];replace BS:=aq (BS.out.below hba);replace HA:=aq (HA.out.below hba);replace TB:=aq (TB.out.below hba);replace P2:=aq (P2.out.below hba);replace BB:=aq (BB.out.trans (hba.mono BB.out.size));clear hV hba;have u0:=P2.out.c0;have u1:=P2.out.c1;have u2:=P3.out.c0;have u3:=P3.out.c1
 rcases HF.out with⟨rfl,rfl,m1⟩ | ⟨n1,n2⟩
 all_goals rcases HD.out with⟨rfl,rfl,m3⟩ | ⟨n3,n4⟩
 all_goals
  clear HF HD
  try (have j1:decide (fa.1 < k)=true:=by simpa using m1
  )
  try (have j2:decide (cb.1 > k)=true:=by simpa using m3
  )
  try (have j3:(fa.1==cb.1)=false:=by simp;omega
  )
  try (have j4:(F1==0)=false:=by simp [n1]
  )
  try (have j5:(F1 != 0)=true:=by simp [n1]
  )
  try (have j6:(E1==0)=false:=by simp [n2]
  )
  try (have j7:(F2==0)=false:=by simp [n3]
  )
  try (have j8:(F2 != 0)=true:=by simp [n3]
  )
  try (have j9:(E2==0)=false:=by simp [n4]
  )
  try clear m1
  try clear m3
  try clear n1 n2
  try clear n3 n4
  obtain⟨_,p0,p1,p2,p3,p4,p5,_⟩:=BS.out
  go_wp2_with fail
  refine (c4.out a _ HA.out TB.out).mono ?_;rintro e x6 ⟨rfl,hb⟩;replace BS:=aq (BS.out.below hb);replace HA:=aq (HA.out.below hb);replace TB:=aq (TB.out.below hb);replace P2:=aq (P2.out.below hb);replace P3:=aq (P3.out.below hb);replace BB:=aq (BB.out.trans (hb.mono BB.out.size));clear hb p0 p1 p2 p3 p4 p5;clear u0 u1 u2 u3
  go_upto_region 12 with (fail)
  obtain⟨V7,hV⟩:∃ V,V=x6.alloc (.cells #[.int .i64 fa.1,.int .i64 fa.2] 32):=⟨_,rfl⟩
  have hba:Below x6.heap.size x6 V7:=by rw [hV];exact (Below.refl _ _).alloc (Nat.le_refl _) _
  have P4:=aq (show PBox V7 x6.heap.size fa by rw [hV];exact PBox.new x6 fa 32);rw [<-hV];replace BS:=aq (BS.out.below hba);replace HA:=aq (HA.out.below hba);replace TB:=aq (TB.out.below hba);replace P2:=aq (P2.out.below hba);replace P3:=aq (P3.out.below hba);replace BB:=aq (BB.out.trans (hba.mono BB.out.size));clear hV hba;obtain⟨_,p0,p1,p2,p3,p4,p5,_⟩:=BS.out
  go_wp2_with fail
  refine (c5.out a _ HA.out TB.out).mono ?_;rintro e x8 ⟨rfl,hb⟩;replace BS:=aq (BS.out.below hb);replace HA:=aq (HA.out.below hb);replace TB:=aq (TB.out.below hb);replace P2:=aq (P2.out.below hb);replace P3:=aq (P3.out.below hb);replace P4:=aq (P4.out.below hb);replace BB:=aq (BB.out.trans (hb.mono BB.out.size));clear hb p0 p1 p2 p3 p4 p5
  go_upto_region 13 with (fail)
  obtain⟨V9,hV⟩:∃ V,V=x8.alloc (.cells #[.int .i64 cb.1,.int .i64 cb.2] 32):=⟨_,rfl⟩
  have hba:Below x8.heap.size x8 V9:=by rw [hV];exact (Below.refl _ _).alloc (Nat.le_refl _) _
  have P5:=aq (show PBox V9 x8.heap.size cb by rw [hV];exact PBox.new x8 cb 32);rw [<-hV];replace BS:=aq (BS.out.below hba);replace HA:=aq (HA.out.below hba);replace TB:=aq (TB.out.below hba);replace P2:=aq (P2.out.below hba);replace P3:=aq (P3.out.below hba);replace P4:=aq (P4.out.below hba);replace BB:=aq (BB.out.trans (hba.mono BB.out.size));clear hV hba;have a2:=P2.out.c0;have b2:=P2.out.c1;have a3:=P3.out.c0;have b3:=P3.out.c1;have a4:=P4.out.c0;have b4:=P4.out.c1;have a5:=P5.out.c0;have b5:=P5.out.c1;go_wp2;go_ret;exact⟨rfl,BB.out⟩
theorem walk (s:Sl) (a:Ads) (k:Int) (W:World) (h:Held W s a) (hok:s.Ok) (hT:Tab W) :
  Calls Tryd.prog 7 #[slv s a,.int .i64 k] W fun e w'=>e=.returned (.bool true)/\Below W.heap.size W w':=by
 cases hg:s.greatB 600
 ·have hs:s.Short:=by
   unfold Sl.greatB at hg
   simp only [Bool.or_eq_false_iff,decide_eq_false_iff_not] at hg
   exact⟨by omega,by omega,by omega,by omega⟩
  by_cases hc:Sk.chkE s=0
  ·rcases Sn.between (k:=k) hc with⟨f1,f2,f3,f4⟩ | ⟨f,c,fV,cV,b1,b2⟩
   ·exact there s a k W h hok hs hg hT hc f1 f2 f3 f4
   ·rw [decide_eq_decide] at f c
    refine apart s a k W h hok hs hg hT hc ?_ ?_ fV cV
    ·by_cases e:Sn.floorE s k=0
     ·exact Or.inl ⟨e,f.1 e,b1 e⟩
     ·exact Or.inr ⟨e,fun h=>e (f.2 h)⟩
    ·by_cases e:Sk.nextE s k=0
     ·exact Or.inl ⟨e,c.1 e,b2 e⟩
     ·exact Or.inr ⟨e,fun h=>e (c.2 h)⟩
  ·exact bad s a k W h hok hs hg hT hc
 ·have HG:=aq hg
  have BS:=aq (Box.new W s a 27);have HB:=aq (fun o=>(Below.refl W.heap.size W).alloc (Nat.le_refl _) o);have CA:=aq (fun o=>l12Alive (W.alloc o) (hT.below (HB.out o)));clear h hok hg hT;unfold slCells at BS;unfold slv
  go_enter Tryd.func7,Tryd.ntmps7
  go_wp2_with fail
  refine (CA.out _).mono ?_;rintro e w0 ⟨rfl,hb⟩;have BB:=aq ((HB.out _).trans (hb.mono (by simp)));obtain⟨_,p0,p1,p2,p3,p4,p5,_⟩:=BS.out.below hb;clear hb
  go_wp2_with fail
  refine (r4Great s a 600 _).mono ?_;rintro e w1 ⟨rfl,hb⟩;rw [HG.out];have HZ:=aq (BB.out.trans (hb.mono BB.out.size));clear hb;go_wp2;go_ret;exact⟨rfl,HZ.out⟩
end Go.Proofs.YtfdpkmafemidjaaDoor.spanBetween
