/- The walk of the law SpanNumbers: the pair of a number has as many keys below it, and is its own floor and ceiling. -/
import Derived.Test.YtfdpkmafemidjaaDoorLaw12Sp
import Derived.Test.YtfdpkmafemidjaaDoorM03Sp
import Derived.Test.YtfdpkmafemidjaaDoorPlain12bSp
import Derived.Test.YtfdpkmafemidjaaDoorTkSp
set_option linter.unusedVariables false
set_option linter.unusedSimpArgs false
set_option maxHeartbeats 8000000
set_option maxRecDepth 100000
namespace Go.Proofs.YtfdpkmafemidjaaDoor.spanNumbers
open Go.RowKit
theorem bad (s:Sl) (a:Ads) (k:Int) (W:World) (h:Held W s a) (hok:s.Ok) (hs:s.Short) (hg:s.greatB 600=false) (hT:Tab W) (hq:In64 k) (hE:¬ Sn.selE s k=0) :
  Calls Tryd.prog 6 #[slv s a,.int .i64 k] W fun e w'=>e=.returned (.bool true)/\Below W.heap.size W w':=by
 have HGr:=aq hg;have HA:=aq h;have TB:=aq hT;have BS:=aq (Box.new W s a 27);have HB:=aq (fun o=>(Below.refl W.heap.size W).alloc (Nat.le_refl _) o);have CA:=aq (fun o=>l12Alive (W.alloc o) (hT.below (HB.out o)));have c1:=aq (fun A V (hv:Held V s A) tv=>nSelect s A k V hv hok hs tv hq);rw [Sn.sel_not hE] at c1;obtain⟨E,hE2⟩:∃ E,E=Sn.selE s k:=⟨_,rfl⟩;rw [<-hE2] at c1 hE
 have k1:(E != 0)=true:=by simp [hE]
 clear h hok hs hg hT hq hE hE2;unfold slv pv at c1;unfold slCells at BS;unfold slv
 go_enter Tryd.func6,Tryd.ntmps6
 go_wp2_with fail
 refine (CA.out _).mono ?_;rintro e w0 ⟨rfl,hb⟩;have BB:=aq ((HB.out _).trans (hb.mono (by simp)));replace BS:=aq (BS.out.below hb);replace HA:=aq (HA.out.below BB.out);replace TB:=aq (TB.out.below BB.out);clear hb HB CA;obtain⟨_,p0,p1,p2,p3,p4,p5,_⟩:=BS.out
 go_wp2_with fail
 refine (r4Great s a 600 _).mono ?_;rintro e w1 ⟨rfl,hb⟩;rw [HGr.out];replace BS:=aq (BS.out.below hb);replace HA:=aq (HA.out.below hb);replace TB:=aq (TB.out.below hb);replace BB:=aq (BB.out.trans (hb.mono BB.out.size));clear hb p0 p1 p2 p3 p4 p5;obtain⟨_,p0,p1,p2,p3,p4,p5,_⟩:=BS.out
 go_wp2_with fail
 refine (c1.out a _ HA.out TB.out).mono ?_;rintro e x1 ⟨rfl,hb⟩;replace BS:=aq (BS.out.below hb);replace HA:=aq (HA.out.below hb);replace TB:=aq (TB.out.below hb);replace BB:=aq (BB.out.trans (hb.mono BB.out.size));clear hb p0 p1 p2 p3 p4 p5;have z0:((0:Int),(0:Int))=(0,0):=rfl;go_wp2;go_ret;exact⟨rfl,by first | exact BB.out | exact BB.out.alloc (by have:=BB.out.size;omega) _⟩
theorem good (s:Sl) (a:Ads) (k:Int) (W:World) (h:Held W s a) (hok:s.Ok) (hs:s.Short) (hg:s.greatB 600=false) (hT:Tab W) (hq:In64 k) (hE:Sn.selE s k=0) :
  Calls Tryd.prog 6 #[slv s a,.int .i64 k] W fun e w'=>e=.returned (.bool true)/\Below W.heap.size W w':=by
 have HGr:=aq hg;have HA:=aq h;have TB:=aq hT;have BS:=aq (Box.new W s a 27);have HB:=aq (fun o=>(Below.refl W.heap.size W).alloc (Nat.le_refl _) o);have CA:=aq (fun o=>l12Alive (W.alloc o) (hT.below (HB.out o)));obtain⟨hM,hX⟩:=Sn.ends_by hE;have N:=Sn.numbers hE;have hk:=Sn.sel_few hE;have l2:=hs.keys;have hw:IntKind.i64.wrap (k+1)=k+1:=IntWalk.i64_in _ (by omega);have hq2:In64 (k+1):=⟨by omega,by omega⟩;have c1:=aq (fun A V (hv:Held V s A) tv=>nSelect s A k V hv hok hs tv hq);have c2:=aq (fun A V (hv:Held V s A) tv=>kRank s A (Sn.selV s k).1 V hv hok hs tv);have c3:=aq (fun A V (hv:Held V s A) tv=>nFloorOf s A (Sn.selV s k).1 V hv hok hs tv);have c4:=aq (fun A V (hv:Held V s A) tv=>nCeilOf s A (Sn.selV s k).1 V hv hok hs tv);have c5:=aq (fun A V (hv:Held V s A) tv=>nMin s A V hv hok hs tv);have c6:=aq (fun A V (hv:Held V s A) tv=>nMax s A V hv hok hs tv);have c7:=aq (fun A V (hv:Held V s A) tv=>nSelect s A (k+1) V hv hok hs tv hq2);rw [hE] at c1;rw [N.rank,N.chk] at c2;rw [N.fE,N.fV] at c3;rw [N.cE,N.cV] at c4;rw [N.ends] at c5 c6;obtain⟨p,hp⟩:∃ p,p=Sn.selV s k:=⟨_,rfl⟩;obtain⟨M,hM2⟩:∃ p,p=Sn.minV s:=⟨_,rfl⟩;obtain⟨X,hX2⟩:∃ p,p=Sn.maxV s:=⟨_,rfl⟩;obtain⟨E,hE2⟩:∃ E,E=Sn.selE s (k+1):=⟨_,rfl⟩;obtain⟨y,hy2⟩:∃ E,E=Sn.selV s (k+1):=⟨_,rfl⟩;rw [<-hp] at c1 c2 c3 c4 hM hX
 rw [<-hM2] at c5 hM;rw [<-hX2] at c6 hX;rw [<-hE2] at c7 hX;rw [<-hy2] at c7;have HM:=aq hM;have HX:=aq hX;clear h hok hs hg hT hq hq2 hE hE2 hp hM2 hX2 hy2 hM hX N;unfold slv pv at c1 c3 c4 c5 c6 c7;unfold slv at c2;unfold slCells at BS;unfold slv
 go_enter Tryd.func6,Tryd.ntmps6
 go_wp2_with fail
 refine (CA.out _).mono ?_;rintro e w0 ⟨rfl,hb⟩;have BB:=aq ((HB.out _).trans (hb.mono (by simp)));replace BS:=aq (BS.out.below hb);replace HA:=aq (HA.out.below BB.out);replace TB:=aq (TB.out.below BB.out);clear hb HB CA;obtain⟨_,p0,p1,p2,p3,p4,p5,_⟩:=BS.out
 go_wp2_with fail
 refine (r4Great s a 600 _).mono ?_;rintro e w1 ⟨rfl,hb⟩;rw [HGr.out];replace BS:=aq (BS.out.below hb);replace HA:=aq (HA.out.below hb);replace TB:=aq (TB.out.below hb);replace BB:=aq (BB.out.trans (hb.mono BB.out.size));clear hb p0 p1 p2 p3 p4 p5;obtain⟨_,p0,p1,p2,p3,p4,p5,_⟩:=BS.out
 go_wp2_with fail
 refine (c1.out a _ HA.out TB.out).mono ?_;rintro e x1 ⟨rfl,hb⟩;replace BS:=aq (BS.out.below hb);replace HA:=aq (HA.out.below hb);replace TB:=aq (TB.out.below hb);replace BB:=aq (BB.out.trans (hb.mono BB.out.size));clear hb p0 p1 p2 p3 p4 p5
 go_upto_region 5 with (fail)
 obtain⟨V2,hV⟩:∃ V,V=x1.alloc (.cells #[.int .i64 p.1,.int .i64 p.2] 32):=⟨_,rfl⟩
 have hba:Below x1.heap.size x1 V2:=by rw [hV];exact (Below.refl _ _).alloc (Nat.le_refl _) _
 have P1:=aq (show PBox V2 x1.heap.size p by rw [hV];exact PBox.new x1 p 32);rw [<-hV];replace BS:=aq (BS.out.below hba);replace HA:=aq (HA.out.below hba);replace TB:=aq (TB.out.below hba);replace BB:=aq (BB.out.trans (hba.mono BB.out.size));clear hV hba;obtain⟨_,u0,u1,_⟩:=P1.out;obtain⟨_,p0,p1,p2,p3,p4,p5,_⟩:=BS.out
 go_wp2_with fail
 refine (c2.out a _ HA.out TB.out).mono ?_;rintro e x3 ⟨rfl,hb⟩;replace BS:=aq (BS.out.below hb);replace HA:=aq (HA.out.below hb);replace TB:=aq (TB.out.below hb);replace P1:=aq (P1.out.below hb);replace BB:=aq (BB.out.trans (hb.mono BB.out.size));clear hb p0 p1 p2 p3 p4 p5;clear u0 u1;obtain⟨_,u0,u1,_⟩:=P1.out;obtain⟨_,p0,p1,p2,p3,p4,p5,_⟩:=BS.out
 go_wp2_with fail
 refine (c3.out a _ HA.out TB.out).mono ?_;rintro e x4 ⟨rfl,hb⟩;replace BS:=aq (BS.out.below hb);replace HA:=aq (HA.out.below hb);replace TB:=aq (TB.out.below hb);replace P1:=aq (P1.out.below hb);replace BB:=aq (BB.out.trans (hb.mono BB.out.size));clear hb p0 p1 p2 p3 p4 p5
 go_upto_region 9 with (fail)
 obtain⟨V5,hV⟩:∃ V,V=x4.alloc (.cells #[.int .i64 p.1,.int .i64 p.2] 32):=⟨_,rfl⟩
 have hba:Below x4.heap.size x4 V5:=by rw [hV];exact (Below.refl _ _).alloc (Nat.le_refl _) _
 have P3:=aq (show PBox V5 x4.heap.size p by rw [hV];exact PBox.new x4 p 32);rw [<-hV];replace BS:=aq (BS.out.below hba);replace HA:=aq (HA.out.below hba);replace TB:=aq (TB.out.below hba);replace P1:=aq (P1.out.below hba);replace BB:=aq (BB.out.trans (hba.mono BB.out.size));clear hV hba;clear u0 u1;obtain⟨_,u0,u1,_⟩:=P1.out;obtain⟨_,p0,p1,p2,p3,p4,p5,_⟩:=BS.out
 go_wp2_with fail
 refine (c4.out a _ HA.out TB.out).mono ?_;rintro e x6 ⟨rfl,hb⟩;replace BS:=aq (BS.out.below hb);replace HA:=aq (HA.out.below hb);replace TB:=aq (TB.out.below hb);replace P1:=aq (P1.out.below hb);replace P3:=aq (P3.out.below hb);replace BB:=aq (BB.out.trans (hb.mono BB.out.size));clear hb p0 p1 p2 p3 p4 p5
 go_upto_region 10 with (fail)
 obtain⟨V7,hV⟩:∃ V,V=x6.alloc (.cells #[.int .i64 p.1,.int .i64 p.2] 32):=⟨_,rfl⟩
 have hba:Below x6.heap.size x6 V7:=by rw [hV];exact (Below.refl _ _).alloc (Nat.le_refl _) _
 have P4:=aq (show PBox V7 x6.heap.size p by rw [hV];exact PBox.new x6 p 32);rw [<-hV];replace BS:=aq (BS.out.below hba);replace HA:=aq (HA.out.below hba);replace TB:=aq (TB.out.below hba);replace P1:=aq (P1.out.below hba);replace P3:=aq (P3.out.below hba);replace BB:=aq (BB.out.trans (hba.mono BB.out.size));clear hV hba;clear u0 u1;obtain⟨_,u0,u1,_⟩:=P1.out;obtain⟨_,p0,p1,p2,p3,p4,p5,_⟩:=BS.out
 go_wp2_with fail
 refine (c5.out a _ HA.out TB.out).mono ?_;rintro e x8 ⟨rfl,hb⟩;replace BS:=aq (BS.out.below hb);replace HA:=aq (HA.out.below hb);replace TB:=aq (TB.out.below hb);replace P1:=aq (P1.out.below hb);replace P3:=aq (P3.out.below hb);replace P4:=aq (P4.out.below hb);replace BB:=aq (BB.out.trans (hb.mono BB.out.size));clear hb p0 p1 p2 p3 p4 p5
 go_upto_region 11 with (fail)
 obtain⟨V9,hV⟩:∃ V,V=x8.alloc (.cells #[.int .i64 M.1,.int .i64 M.2] 32):=⟨_,rfl⟩
 have hba:Below x8.heap.size x8 V9:=by rw [hV];exact (Below.refl _ _).alloc (Nat.le_refl _) _
 have P5:=aq (show PBox V9 x8.heap.size M by rw [hV];exact PBox.new x8 M 32);rw [<-hV];replace BS:=aq (BS.out.below hba);replace HA:=aq (HA.out.below hba);replace TB:=aq (TB.out.below hba);replace P1:=aq (P1.out.below hba);replace P3:=aq (P3.out.below hba);replace P4:=aq (P4.out.below hba);replace BB:=aq (BB.out.trans (hba.mono BB.out.size));clear hV hba;clear u0 u1;obtain⟨_,u0,u1,_⟩:=P1.out;obtain⟨_,p0,p1,p2,p3,p4,p5,_⟩:=BS.out
 go_wp2_with fail
 refine (c6.out a _ HA.out TB.out).mono ?_;rintro e x10 ⟨rfl,hb⟩;replace BS:=aq (BS.out.below hb);replace HA:=aq (HA.out.below hb);replace TB:=aq (TB.out.below hb);replace P1:=aq (P1.out.below hb);replace P3:=aq (P3.out.below hb);replace P4:=aq (P4.out.below hb);replace P5:=aq (P5.out.below hb);replace BB:=aq (BB.out.trans (hb.mono BB.out.size));clear hb p0 p1 p2 p3 p4 p5
 go_upto_region 12 with (fail)
 obtain⟨V11,hV⟩:∃ V,V=x10.alloc (.cells #[.int .i64 X.1,.int .i64 X.2] 32):=⟨_,rfl⟩
 have hba:Below x10.heap.size x10 V11:=by rw [hV];exact (Below.refl _ _).alloc (Nat.le_refl _) _
 have P6:=aq (show PBox V11 x10.heap.size X by rw [hV];exact PBox.new x10 X 32);rw [<-hV];replace BS:=aq (BS.out.below hba);replace HA:=aq (HA.out.below hba);replace TB:=aq (TB.out.below hba);replace P1:=aq (P1.out.below hba);replace P3:=aq (P3.out.below hba);replace P4:=aq (P4.out.below hba);replace P5:=aq (P5.out.below hba);replace BB:=aq (BB.out.trans (hba.mono BB.out.size));clear hV hba;clear u0 u1;obtain⟨_,u0,u1,_⟩:=P1.out;obtain⟨_,p0,p1,p2,p3,p4,p5,_⟩:=BS.out
 go_wp2_with fail
 refine (c7.out a _ HA.out TB.out).mono ?_;rintro e x12 ⟨rfl,hb⟩;replace BS:=aq (BS.out.below hb);replace HA:=aq (HA.out.below hb);replace TB:=aq (TB.out.below hb);replace P1:=aq (P1.out.below hb);replace P3:=aq (P3.out.below hb);replace P4:=aq (P4.out.below hb);replace P5:=aq (P5.out.below hb);replace P6:=aq (P6.out.below hb);replace BB:=aq (BB.out.trans (hb.mono BB.out.size));clear hb p0 p1 p2 p3 p4 p5
 go_upto_region 13 with (fail)
 obtain⟨V13,hV⟩:∃ V,V=x12.alloc (.cells #[.int .i64 y.1,.int .i64 y.2] 32):=⟨_,rfl⟩
 have hba:Below x12.heap.size x12 V13:=by rw [hV];exact (Below.refl _ _).alloc (Nat.le_refl _) _
 have P7:=aq (show PBox V13 x12.heap.size y by rw [hV];exact PBox.new x12 y 32);rw [<-hV];replace BS:=aq (BS.out.below hba);replace HA:=aq (HA.out.below hba);replace TB:=aq (TB.out.below hba);replace P1:=aq (P1.out.below hba);replace P3:=aq (P3.out.below hba);replace P4:=aq (P4.out.below hba);replace P5:=aq (P5.out.below hba);replace P6:=aq (P6.out.below hba);replace BB:=aq (BB.out.trans (hba.mono BB.out.size));clear hV hba;clear u0 u1;obtain⟨_,u0,u1,_⟩:=P1.out;have a3:=P3.out.c0;have b3:=P3.out.c1;have a4:=P4.out.c0;have b4:=P4.out.c1;have a5:=P5.out.c0;have b5:=P5.out.c1;have a6:=P6.out.c0;have b6:=P6.out.c1
 rcases HM.out with⟨m1,m2⟩ | ⟨m1,m2⟩
 all_goals rcases HX.out with⟨m3,m4⟩ | ⟨m3,m4⟩
 all_goals
  clear HM HX
  try (have m5:=Eq.symm m2;subst m5)
  try (have m5:=Eq.symm m4;subst m5)
  try (have j1:(k==0)=true:=by simp [m1]
  )
  try (have j1:(k==0)=false:=by simp [m1]
  )
  try (have j2:(M.1==p.1)=false:=by simp [m2]
  )
  try (have j3:(E != 0)=true:=by simp [m3]
  )
  try (have j3:(E != 0)=false:=by simp [m3]
  )
  try (have j4:(X.1==p.1)=false:=by simp [m4]
  )
  clear m1 m3
  try clear m2
  try clear m4
  go_wp2;go_ret;exact⟨rfl,BB.out⟩
theorem walk (s:Sl) (a:Ads) (k:Int) (W:World) (h:Held W s a) (hok:s.Ok) (hT:Tab W) (hq:In64 k) :
  Calls Tryd.prog 6 #[slv s a,.int .i64 k] W fun e w'=>e=.returned (.bool true)/\Below W.heap.size W w':=by
 cases hg:s.greatB 600
 ·have hs:s.Short:=by
   unfold Sl.greatB at hg
   simp only [Bool.or_eq_false_iff,decide_eq_false_iff_not] at hg
   exact⟨by omega,by omega,by omega,by omega⟩
  by_cases hE:Sn.selE s k=0
  ·exact good s a k W h hok hs hg hT hq hE
  ·exact bad s a k W h hok hs hg hT hq hE
 ·have HG:=aq hg
  have BS:=aq (Box.new W s a 27);have HB:=aq (fun o=>(Below.refl W.heap.size W).alloc (Nat.le_refl _) o);have CA:=aq (fun o=>l12Alive (W.alloc o) (hT.below (HB.out o)));clear h hok hg hT hq;unfold slCells at BS;unfold slv
  go_enter Tryd.func6,Tryd.ntmps6
  go_wp2_with fail
  refine (CA.out _).mono ?_;rintro e w0 ⟨rfl,hb⟩;have BB:=aq ((HB.out _).trans (hb.mono (by simp)));obtain⟨_,p0,p1,p2,p3,p4,p5,_⟩:=BS.out.below hb;clear hb
  go_wp2_with fail
  refine (r4Great s a 600 _).mono ?_;rintro e w1 ⟨rfl,hb⟩;rw [HG.out];have HZ:=aq (BB.out.trans (hb.mono BB.out.size));clear hb;go_wp2;go_ret;exact⟨rfl,HZ.out⟩
end Go.Proofs.YtfdpkmafemidjaaDoor.spanNumbers
