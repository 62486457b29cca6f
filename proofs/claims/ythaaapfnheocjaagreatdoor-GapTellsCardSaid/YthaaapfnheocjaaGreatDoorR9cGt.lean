/- What the document's own Gone and Take return. -/
import Derived.Test.YthaaapfnheocjaaGreatDoorTkGt
import Derived.Test.YthaaapfnheocjaaGreatDoorR9aGt
import Derived.Test.YthaaapfnheocjaaGreatDoorP9rGt
import Derived.Test.YthaaapfnheocjaaGreatDoorP9fGt
import Derived.Test.YthaaapfnheocjaaGreatDoorGapEGt
set_option linter.unusedVariables false
set_option linter.unusedSimpArgs false
set_option maxHeartbeats 4000000
set_option maxRecDepth 100000
namespace Go.Proofs.YthaaapfnheocjaaGreatDoor
open Go.RowKit
theorem Gp.seg_le {c:Cf} {z:Int} (hm:c.May) (hz:c.Is z):c.seg<=z:=by
 obtain⟨f1,f2,f3,f4,f5,f6,f7⟩:=fits_yes (Gp.fits_cap hm hz);exact Int.le_of_dvd (by omega) (Int.dvd_of_emod_eq_zero f6)
theorem r9GoneNone (c:Cf) (s:Sl) (a:Ads) (H k:Nat) (w:World) (h:Held w s a) (hok:s.Ok) (hs:s.Short) (O:Gp.Own c s H) (hk:(k:Int) < Gp.many s) (hway:Gp.under c (s.emptied (Gp.place s k)) (Gp.place s k) < 0) :
  Calls Tryz.prog 37 #[cfv c,slv s a,.int .i64 (k:Int)] w (SPost (Gp.goneS c (s.emptied (Gp.place s k)) (Gp.place s k)) w):=by
 have p:=Gp.place_in hk;have C:=Gp.clr_of O.may hk;have BF:=Gp.bare_full O hk;obtain⟨x,hx⟩:∃ x,x=Gp.place s k:=⟨_,rfl⟩;rw [<-hx] at p C BF hway ⊢;have p1:=p.1;have l2:=hs.keys;have g1:=O.cap.fit.g1
 have sz:c.seg<=(s.keys.length:Int):=by
  have e:=O.cap.wide_le (Nat.zero_le H)
  have:c.wide ((0:Nat):Int)=c.seg:=by show c.seg*2^0=_;simp
  omega
 have FT0:=may_fit (may_iff.2 O.may) hok hs
 have CP:=aq (show ∀ W,Below w.heap.size w W->Calls Tryz.prog 86 #[slv s a,.int .i64 (k:Int)] W fun e w'=>e=.returned (.int .i64 (x:Int))/\Below W.heap.size W w' from fun W hb=>by
  rw [hx]
  exact r9Place s a k W (h.below hb) hok hs O.may hk)
 have CE:=aq (fun W (hb:Below w.heap.size w W)=>r4Emptied s a x 64 W (h.below hb) FT0 (by omega) p1);obtain⟨t,ht⟩:∃ t,t=s.emptied x:=⟨_,rfl⟩
 have tk:t.keys.length=s.keys.length:=by rw [ht];exact C.keys
 have tM:t.May:=by rw [ht];exact C.may
 have tO:t.Ok:=by rw [ht];exact (FT0.emptied (by omega) x).ok
 have tS:t.Short:=by rw [ht];exact hs.emptied x
 have tG:t.seg=c.seg:=by rw [ht];exact O.seg
 have KT:Gp.Cap c t.keys.length H:=by rw [tk];exact O.cap
 have FT:=may_fit (may_iff.2 tM) tO tS
 have hxt:x < t.keys.length:=by omega
 have tl2:t.keys.length<=65536:=by omega
 rw [<-ht] at CE BF hway ⊢;have CU:=aq (fun A W (hv:Held W t A)=>r9under c t A H x W hv tS tM KT tG hxt);have CH:=aq (fun W=>r5Height c t.keys.length W g1 (by omega) (by omega));rw [KT.high] at CH;obtain⟨W1,hW1⟩:∃ W1,W1=((w.alloc (.cells (cfCells c) 32)).alloc (.cells #[.int .i64 s.seg,.slice a.w s.words.length a.cw,.slice a.k s.keys.length a.ck,.slice a.v s.vals.length a.cv,.slice a.c s.counts.length a.cc,.int .u64 (s.laid:Int)] 27)).alloc (.cells #[.int .i64 0,.slice none 0 0,.slice none 0 0,.slice none 0 0,.slice none 0 0,.int .u64 0] 27):=⟨_,rfl⟩;have BB:=aq (show Below w.heap.size w W1 by rw [hW1];exact (((Below.refl w.heap.size w).alloc (Nat.le_refl _) _).alloc (by simp) _).alloc (by simp;omega) _);have BC:=aq (show CBox W1 w.heap.size c by rw [hW1];exact ((CBox.new w c 32).below ((Below.refl _ _).alloc (Nat.le_refl _) _)).below ((Below.refl _ _).alloc (Nat.le_refl _) _));have BX:=aq (show Box W1 (w.heap.size+1) s a by rw [hW1];exact (Box.second w _ s a 27).below ((Below.refl _ _).alloc (Nat.le_refl _) _))
 have BR:=aq (show Box W1 (w.heap.size+1+1) Sl.none adsNone by
  rw [hW1];have q:=Box.new ((w.alloc (.cells (cfCells c) 32)).alloc (.cells #[.int .i64 s.seg,.slice a.w s.words.length a.cw,.slice a.k s.keys.length a.ck,.slice a.v s.vals.length a.cv,.slice a.c s.counts.length a.cc,.int .u64 (s.laid:Int)] 27)) Sl.none adsNone 27
  simp only [World.size_alloc] at q
  exact q)
 have zz:w.heap.size+3<=W1.heap.size:=by rw [hW1];simp
 have V:=aq (show Gp.goneS c t x=t by unfold Gp.goneS;rw [if_pos hway]);rw [V.out];obtain⟨g,hg⟩:∃ g,g=Gp.under c t x:=⟨_,rfl⟩;rw [<-hg] at CU hway
 have k1:decide (g < 0)=true:=by simp [hway]
 clear tk h hok hs O hk p p1 C BF hx FT0 ht tM tO tS tG KT FT hg V hxt;unfold slv at CP CE CU;unfold cfv at CU CH;unfold slv cfv
 go_enter Tryz.func37,Tryz.ntmps37
 unfold cfCells at hW1
 go_upto_region 1 with (fail)
 rw [<-hW1];clear hW1;obtain⟨_,c0,c1,c2,c3,c4,c5,c6,c7,c8,_⟩:=BC.out;obtain⟨_,q0,q1,q2,q3,q4,q5,_⟩:=BX.out
 go_wp2_with fail
 refine (CP.out _ BB.out).mono ?_;rintro e w1 ⟨rfl,hb⟩;clear c0 c1 c2 c3 c4 c5 c6 c7 c8 q0 q1 q2 q3 q4 q5;replace BC:=aq (BC.out.below hb);replace BX:=aq (BX.out.below hb);replace BR:=aq (BR.out.below hb);replace BB:=aq (BB.out.trans (hb.mono BB.out.size));replace zz:=Nat.le_trans zz hb.size;clear hb;obtain⟨_,c0,c1,c2,c3,c4,c5,c6,c7,c8,_⟩:=BC.out;obtain⟨_,q0,q1,q2,q3,q4,q5,_⟩:=BX.out
 go_wp2_with fail
 refine (CE.out _ BB.out).mono ?_;rintro e w2 ⟨A2,rfl,own,sep,lies,hb⟩;clear c0 c1 c2 c3 c4 c5 c6 c7 c8 q0 q1 q2 q3 q4 q5;have z1:=zz;replace BC:=aq (BC.out.below hb);replace BX:=aq (BX.out.below hb);replace BR:=aq (BR.out.below hb);replace BB:=aq (BB.out.trans (hb.mono BB.out.size));replace zz:=Nat.le_trans zz hb.size;clear hb;unfold slv;obtain⟨_,q0,q1,q2,q3,q4,q5,qf⟩:=BX.out;have qf0:=qf 0;have qf1:=qf 1;have qf2:=qf 2;have qf3:=qf 3;have qf4:=qf 4;have qf5:=qf 5;clear qf;have g0:=BX.out.lt
 go_upto_region 3 with (fail)
 obtain⟨V2,hV⟩:∃ V,V=put6 w2 (w.heap.size+1) (.int .i64 t.seg) (.slice A2.w t.words.length A2.cw) (.slice A2.k t.keys.length A2.ck) (.slice A2.v t.vals.length A2.cv) (.slice A2.c t.counts.length A2.cc) (.int .u64 (t.laid:Int)):=⟨_,rfl⟩
 have hs2:V2.heap.size=w2.heap.size:=by rw [hV];simp [put6]
 replace BX:=aq (show Box V2 (w.heap.size+1) t A2 by rw [hV];exact BX.out.put6 t A2);replace BR:=aq (show Box V2 (w.heap.size+1+1) Sl.none adsNone by rw [hV];exact BR.out.put6o (by omega) _ _ _ _ _ _);replace BC:=aq (show CBox V2 w.heap.size c by rw [hV];exact CBox.low BC.out (n:=w.heap.size+1) (by omega) (below_put6 (Below.refl (w.heap.size+1) w2) (Nat.le_refl _) _ _ _ _ _ _));have OW:=aq (show Own V2 (w.heap.size+3) t A2 by rw [hV];exact⟨(own.words.put6 (by omega) _ _ _ _ _ _).lower (by omega),(own.keys.put6 (by omega) _ _ _ _ _ _).lower (by omega),(own.vals.put6 (by omega) _ _ _ _ _ _).lower (by omega),(own.counts.put6 (by omega) _ _ _ _ _ _).lower (by omega),own.caps⟩);have LI:=aq (show Lies V2 (w.heap.size+3) A2 from (lies.lower (by omega)).size (by omega));have SP:=aq sep;replace BB:=aq (show Below w.heap.size w V2 by rw [hV];exact below_put6 BB.out (Nat.le_succ _) _ _ _ _ _ _)
 replace zz:w.heap.size+3<=V2.heap.size:=by omega
 unfold put6 at hV
 first | rw [<-hV] | skip
 clear hV own lies sep q0 q1 q2 q3 q4 q5 qf0 qf1 qf2 qf3 qf4 qf5 g0 hs2 z1;obtain⟨_,c0,c1,c2,c3,c4,c5,c6,c7,c8,_⟩:=BC.out;obtain⟨_,q0,q1,q2,q3,q4,q5,_⟩:=BX.out
 go_wp2_with fail
 refine (CU.out A2 _ OW.out.held).mono ?_;rintro e w3 ⟨rfl,hb⟩;clear c0 c1 c2 c3 c4 c5 c6 c7 c8 q0 q1 q2 q3 q4 q5;replace BC:=aq (BC.out.below hb);replace BX:=aq (BX.out.below hb);replace BR:=aq (BR.out.below hb);replace OW:=aq (OW.out.below hb);replace LI:=aq (LI.out.size hb.size);replace BB:=aq (BB.out.trans (hb.mono BB.out.size));replace zz:=Nat.le_trans zz hb.size;clear hb;obtain⟨_,q0,q1,q2,q3,q4,q5,_⟩:=BX.out;obtain⟨_,s0,s1,s2,s3,s4,s5,sf⟩:=BR.out;have⟨sf0,sf1,sf2,sf3,sf4,sf5⟩:=sf6 sf;have FIN:=aq (put6_fin (r:=w.heap.size+1+1) OW.out SP.out LI.out BB.out (by omega) (by omega));go_wp2;refine bodyPost_ret (v:=slv t A2) (by simp [results,Tryz.results37,go_sem,slv,s0,s1,s2,s3,s4,s5,sf0,sf1,sf2,sf3,sf4,sf5]) rfl ?_;exact⟨_,rfl,FIN.out _ _ _ _ _ _⟩
theorem r9GoneTop (c:Cf) (s:Sl) (a:Ads) (H k:Nat) (w:World) (h:Held w s a) (hok:s.Ok) (hs:s.Short) (O:Gp.Own c s H) (hk:(k:Int) < Gp.many s) (hway:Gp.under c (s.emptied (Gp.place s k)) (Gp.place s k)=(H:Int)) :
  Calls Tryz.prog 37 #[cfv c,slv s a,.int .i64 (k:Int)] w (SPost (Gp.goneS c (s.emptied (Gp.place s k)) (Gp.place s k)) w):=by
 have p:=Gp.place_in hk;have C:=Gp.clr_of O.may hk;have BF:=Gp.bare_full O hk;obtain⟨x,hx⟩:∃ x,x=Gp.place s k:=⟨_,rfl⟩;rw [<-hx] at p C BF hway ⊢;have p1:=p.1;have l2:=hs.keys;have g1:=O.cap.fit.g1
 have sz:c.seg<=(s.keys.length:Int):=by
  have e:=O.cap.wide_le (Nat.zero_le H)
  have:c.wide ((0:Nat):Int)=c.seg:=by show c.seg*2^0=_;simp
  omega
 have FT0:=may_fit (may_iff.2 O.may) hok hs
 have CP:=aq (show ∀ W,Below w.heap.size w W->Calls Tryz.prog 86 #[slv s a,.int .i64 (k:Int)] W fun e w'=>e=.returned (.int .i64 (x:Int))/\Below W.heap.size W w' from fun W hb=>by
  rw [hx]
  exact r9Place s a k W (h.below hb) hok hs O.may hk)
 have CE:=aq (fun W (hb:Below w.heap.size w W)=>r4Emptied s a x 64 W (h.below hb) FT0 (by omega) p1);obtain⟨t,ht⟩:∃ t,t=s.emptied x:=⟨_,rfl⟩
 have tk:t.keys.length=s.keys.length:=by rw [ht];exact C.keys
 have tM:t.May:=by rw [ht];exact C.may
 have tO:t.Ok:=by rw [ht];exact (FT0.emptied (by omega) x).ok
 have tS:t.Short:=by rw [ht];exact hs.emptied x
 have tG:t.seg=c.seg:=by rw [ht];exact O.seg
 have KT:Gp.Cap c t.keys.length H:=by rw [tk];exact O.cap
 have FT:=may_fit (may_iff.2 tM) tO tS
 have hxt:x < t.keys.length:=by omega
 have tl2:t.keys.length<=65536:=by omega
 rw [<-ht] at CE BF hway ⊢;have CU:=aq (fun A W (hv:Held W t A)=>r9under c t A H x W hv tS tM KT tG hxt);have CH:=aq (fun W=>r5Height c t.keys.length W g1 (by omega) (by omega));rw [KT.high] at CH;obtain⟨W1,hW1⟩:∃ W1,W1=((w.alloc (.cells (cfCells c) 32)).alloc (.cells #[.int .i64 s.seg,.slice a.w s.words.length a.cw,.slice a.k s.keys.length a.ck,.slice a.v s.vals.length a.cv,.slice a.c s.counts.length a.cc,.int .u64 (s.laid:Int)] 27)).alloc (.cells #[.int .i64 0,.slice none 0 0,.slice none 0 0,.slice none 0 0,.slice none 0 0,.int .u64 0] 27):=⟨_,rfl⟩;have BB:=aq (show Below w.heap.size w W1 by rw [hW1];exact (((Below.refl w.heap.size w).alloc (Nat.le_refl _) _).alloc (by simp) _).alloc (by simp;omega) _);have BC:=aq (show CBox W1 w.heap.size c by rw [hW1];exact ((CBox.new w c 32).below ((Below.refl _ _).alloc (Nat.le_refl _) _)).below ((Below.refl _ _).alloc (Nat.le_refl _) _));have BX:=aq (show Box W1 (w.heap.size+1) s a by rw [hW1];exact (Box.second w _ s a 27).below ((Below.refl _ _).alloc (Nat.le_refl _) _))
 have BR:=aq (show Box W1 (w.heap.size+1+1) Sl.none adsNone by
  rw [hW1];have q:=Box.new ((w.alloc (.cells (cfCells c) 32)).alloc (.cells #[.int .i64 s.seg,.slice a.w s.words.length a.cw,.slice a.k s.keys.length a.ck,.slice a.v s.vals.length a.cv,.slice a.c s.counts.length a.cc,.int .u64 (s.laid:Int)] 27)) Sl.none adsNone 27
  simp only [World.size_alloc] at q
  exact q)
 have zz:w.heap.size+3<=W1.heap.size:=by rw [hW1];simp
 have al:=Gp.all_len t;have m0:0<=Gp.many t:=Gp.cnt_nn _ _ _;have ml:=Gp.many_le (s:=t);have MM:=aq KT.may;have SB:=KT.may.size_bd KT.is;have l1:=KT.may.sizes.least1
 have le20:(t.keys.length:Int)<=c.least*2^20:=by rw [show (2:Int)^20=1048576 from by decide];omega
 have HF:c.manyB t.keys.length (c.high t.keys.length) (Gp.many t)=true:=by rw [BF.1,tk];exact BF.2
 obtain⟨t1,t2,t3,t4⟩:=Gp.halve_right KT.may m0 20 t.keys.length KT.is ml HF le20;have IS:=aq KT.is;obtain⟨Z,hZ⟩:∃ Z:Nat,Gp.halve c (Gp.many t) 20 t.keys.length=Z:=⟨(Gp.halve c (Gp.many t) 20 t.keys.length).toNat,by have:=(KT.may.size_bd t1).1;omega⟩;rw [hZ] at t1 t2 t3 t4
 have hf:Sl.fitsB t.seg Z=true:=by rw [tG];exact Gp.fits_cap KT.may t1
 have A64:=of_in64 tO 0 t.keys.length;obtain⟨y,hy⟩:∃ y,y=Ly.wide t Z (Gp.all t):=⟨_,rfl⟩;have V:=aq (show Gp.goneS c t x=y by unfold Gp.goneS;rw [hway,if_neg (by omega),KT.high,if_pos rfl,hZ,hy]);rw [V.out];have CM:=aq (fun A W (hv:Held W t A)=>r9Many t A W hv tS tM);have CF:=aq (show ∀ A W,Held W t A->Calls Tryz.prog 82 #[slv t A,.int .i64 0,.int .i64 (t.keys.length:Int)] W (POwn (Gp.all t) W) from fun A W hv=>r4Of t A 0 t.keys.length W hv tO tS tM.vals (Nat.le_refl _) (by have:=tM.wlen;omega) (by omega))
 have CS:=aq (show ∀ A W A6 d6,PLst W A6 (Gp.all t)->Calls Tryz.prog 83 #[slv t A,.int .i64 (Z:Int),.slice A6 (Gp.all t).length d6] W (SPost y W) from fun A W A6 d6 hp=>by
  rw [hy]
  exact r8Wide t A Z A6 d6 (Gp.all t) W tO hf (by omega) hp A64)
 have CHz:=aq (fun z (hz:c.Is z) W=>r5Height c z W g1 (Gp.seg_le KT.may hz) (by have:=KT.may.size_bd hz;omega));have CN:=aq (fun z (hz:c.Is z) (hm:Gp.many t<=z) W=>r5NotFew c z (c.high z) (Gp.many t) W (KT.may.all_ok hz m0 hm));obtain⟨ps,hps⟩:∃ ps,ps=Gp.all t:=⟨_,rfl⟩;rw [<-hps] at CF CS;obtain⟨mm,hmm⟩:∃ m,m=Gp.many t:=⟨_,rfl⟩;rw [<-hmm] at CM CN m0 ml hZ;obtain⟨n0,hn0⟩:∃ n0:Int,n0=(t.keys.length:Int):=⟨_,rfl⟩;have IN:=aq (show c.Is n0/\mm<=n0/\n0<=c.least*2^20/\Gp.halve c mm 20 n0=Z by rw [hn0];exact⟨IS.out,ml,le20,hZ⟩);rw [hway] at CU
 have k1:decide ((H:Int) < 0)=false:=by simp
 clear tk h hok hs O hk p p1 C BF hx FT0 ht tM tO tS tG KT FT hway V hxt al t1 t2 t3 t4 hf A64 hy hps hmm HF IS le20 hZ SB;unfold slv at CP CE CU CM CF CS;unfold cfv at CU CH CHz CN;unfold slv cfv
 go_enter Tryz.func37,Tryz.ntmps37
 unfold cfCells at hW1
 go_upto_region 1 with (fail)
 rw [<-hW1];clear hW1;obtain⟨_,c0,c1,c2,c3,c4,c5,c6,c7,c8,_⟩:=BC.out;obtain⟨_,q0,q1,q2,q3,q4,q5,_⟩:=BX.out
 go_wp2_with fail
 refine (CP.out _ BB.out).mono ?_;rintro e w1 ⟨rfl,hb⟩;clear c0 c1 c2 c3 c4 c5 c6 c7 c8 q0 q1 q2 q3 q4 q5;replace BC:=aq (BC.out.below hb);replace BX:=aq (BX.out.below hb);replace BR:=aq (BR.out.below hb);replace BB:=aq (BB.out.trans (hb.mono BB.out.size));replace zz:=Nat.le_trans zz hb.size;clear hb;obtain⟨_,c0,c1,c2,c3,c4,c5,c6,c7,c8,_⟩:=BC.out;obtain⟨_,q0,q1,q2,q3,q4,q5,_⟩:=BX.out
 go_wp2_with fail
 refine (CE.out _ BB.out).mono ?_;rintro e w2 ⟨A2,rfl,own,sep,lies,hb⟩;clear c0 c1 c2 c3 c4 c5 c6 c7 c8 q0 q1 q2 q3 q4 q5;have z1:=zz;replace BC:=aq (BC.out.below hb);replace BX:=aq (BX.out.below hb);replace BR:=aq (BR.out.below hb);replace BB:=aq (BB.out.trans (hb.mono BB.out.size));replace zz:=Nat.le_trans zz hb.size;clear hb;unfold slv;obtain⟨_,q0,q1,q2,q3,q4,q5,qf⟩:=BX.out;have qf0:=qf 0;have qf1:=qf 1;have qf2:=qf 2;have qf3:=qf 3;have qf4:=qf 4;have qf5:=qf 5;clear qf;have g0:=BX.out.lt
 go_upto_region 3 with (fail)
 obtain⟨V2,hV⟩:∃ V,V=put6 w2 (w.heap.size+1) (.int .i64 t.seg) (.slice A2.w t.words.length A2.cw) (.slice A2.k t.keys.length A2.ck) (.slice A2.v t.vals.length A2.cv) (.slice A2.c t.counts.length A2.cc) (.int .u64 (t.laid:Int)):=⟨_,rfl⟩
 have hs2:V2.heap.size=w2.heap.size:=by rw [hV];simp [put6]
 replace BX:=aq (show Box V2 (w.heap.size+1) t A2 by rw [hV];exact BX.out.put6 t A2);replace BR:=aq (show Box V2 (w.heap.size+1+1) Sl.none adsNone by rw [hV];exact BR.out.put6o (by omega) _ _ _ _ _ _);replace BC:=aq (show CBox V2 w.heap.size c by rw [hV];exact CBox.low BC.out (n:=w.heap.size+1) (by omega) (below_put6 (Below.refl (w.heap.size+1) w2) (Nat.le_refl _) _ _ _ _ _ _));have OW:=aq (show Own V2 (w.heap.size+3) t A2 by rw [hV];exact⟨(own.words.put6 (by omega) _ _ _ _ _ _).lower (by omega),(own.keys.put6 (by omega) _ _ _ _ _ _).lower (by omega),(own.vals.put6 (by omega) _ _ _ _ _ _).lower (by omega),(own.counts.put6 (by omega) _ _ _ _ _ _).lower (by omega),own.caps⟩);have LI:=aq (show Lies V2 (w.heap.size+3) A2 from (lies.lower (by omega)).size (by omega));have SP:=aq sep;replace BB:=aq (show Below w.heap.size w V2 by rw [hV];exact below_put6 BB.out (Nat.le_succ _) _ _ _ _ _ _)
 replace zz:w.heap.size+3<=V2.heap.size:=by omega
 unfold put6 at hV
 first | rw [<-hV] | skip
 clear hV own lies sep q0 q1 q2 q3 q4 q5 qf0 qf1 qf2 qf3 qf4 qf5 g0 hs2 z1;obtain⟨_,c0,c1,c2,c3,c4,c5,c6,c7,c8,_⟩:=BC.out;obtain⟨_,q0,q1,q2,q3,q4,q5,_⟩:=BX.out
 go_wp2_with fail
 refine (CU.out A2 _ OW.out.held).mono ?_;rintro e w3 ⟨rfl,hb⟩;clear c0 c1 c2 c3 c4 c5 c6 c7 c8 q0 q1 q2 q3 q4 q5;replace BC:=aq (BC.out.below hb);replace BX:=aq (BX.out.below hb);replace BR:=aq (BR.out.below hb);replace OW:=aq (OW.out.below hb);replace LI:=aq (LI.out.size hb.size);replace BB:=aq (BB.out.trans (hb.mono BB.out.size));replace zz:=Nat.le_trans zz hb.size;clear hb;obtain⟨_,c0,c1,c2,c3,c4,c5,c6,c7,c8,_⟩:=BC.out;obtain⟨_,q0,q1,q2,q3,q4,q5,_⟩:=BX.out
 go_wp2_with fail
 refine (CH.out _).mono ?_;rintro e w4 ⟨rfl,hb⟩;clear c0 c1 c2 c3 c4 c5 c6 c7 c8 q0 q1 q2 q3 q4 q5;replace BC:=aq (BC.out.below hb);replace BX:=aq (BX.out.below hb);replace BR:=aq (BR.out.below hb);replace OW:=aq (OW.out.below hb);replace LI:=aq (LI.out.size hb.size);replace BB:=aq (BB.out.trans (hb.mono BB.out.size));replace zz:=Nat.le_trans zz hb.size;clear hb
 go_wp2_with fail
 go_loopw [9] (fun p wr=>∃ (f:Nat) (z:Int),p=.int .i64 z/\c.Is z/\mm<=z/\z<=c.least*2^f/\Gp.halve c mm f z=Z/\Below w4.heap.size w4 wr) (fun p _=>(intOf p).toNat)
 case atStart=>exact⟨20,n0,by rw [hn0],IN.out.1,IN.out.2.1,IN.out.2.2.1,IN.out.2.2.2,Below.refl _ _⟩
 case round =>
  obtain⟨f,z,rfl,hi,hz,hle,he,hbr⟩:=hrel;have HE:=aq he;have SB:=MM.out.size_bd hi;have HS:=aq (Gp.halve_step MM.out m0 hi hz);have CHn:=aq (CHz.out z hi);have CNn:=aq (CN.out z hi hz);have HI:=aq hi;have l4:=hbr.size;replace BC:=aq (BC.out.below hbr);replace BX:=aq (BX.out.below hbr);replace BR:=aq (BR.out.below hbr);replace OW:=aq (OW.out.below hbr);replace LI:=aq (LI.out.size hbr.size);have BK:=aq hbr;replace BB:=aq (BB.out.trans (hbr.mono BB.out.size));replace zz:=Nat.le_trans zz hbr.size;clear hbr he
  cases hf:c.fewB z (c.high z) mm
  ·obtain⟨i2,j2,k2,l3⟩:=HS.out hf
   have hq:z.tdiv 2=z/2:=Int.tdiv_eq_ediv_of_nonneg (by omega)
   obtain⟨f',rfl⟩:∃ f',f=f'+1:=by
    cases f with
    | zero =>
     exfalso
     rw [Int.pow_zero,Int.mul_one] at hle;have:=hi.lo
     have e9:z=c.least:=by omega
     unfold Cf.fewB at hf;rw [e9] at hf
     simp at hf
    | succ f'=>exact⟨f',rfl⟩
   have E2:=aq (show Gp.halve c mm f' (z/2)=Z by
    rw [<-HE.out]
    show _=if _ then _ else _
    rw [hf]
    rfl)
   have L2:=aq (show z/2<=c.least*2^f' by
    rw [Int.pow_succ,Int.mul_comm (2^f') 2,<-Int.mul_assoc,Int.mul_comm c.least 2,Int.mul_assoc] at hle
    omega)
   rw [hf] at CNn;clear HS hle hf k2 HI
   go_upto_region 8 with (fail)
   have dr:=(Below.refl wr.heap.size wr).drew;refine wp_region_held_drew (S:=(fun w'=>(w'.cell? ⟨w.heap.size,0,none⟩=some (.int .u8 c.tag)/\w'.cell? ⟨w.heap.size,1,none⟩=some (.int .i64 c.most)/\w'.cell? ⟨w.heap.size,2,none⟩=some (.int .i64 c.seg)/\w'.cell? ⟨w.heap.size,3,none⟩=some (.int .i64 c.least)/\w'.cell? ⟨w.heap.size,4,none⟩=some (.int .i64 c.den)/\w'.cell? ⟨w.heap.size,5,none⟩=some (.int .i64 c.ll)/\w'.cell? ⟨w.heap.size,6,none⟩=some (.int .i64 c.rl)/\w'.cell? ⟨w.heap.size,7,none⟩=some (.int .i64 c.rh)/\w'.cell? ⟨w.heap.size,8,none⟩=some (.int .i64 c.lh)/\w'.cell? ⟨w.heap.size+1,0,none⟩=some (.int .i64 t.seg)/\w'.cell? ⟨w.heap.size+1,1,none⟩=some (.slice A2.w t.words.length A2.cw)/\w'.cell? ⟨w.heap.size+1,2,none⟩=some (.slice A2.k t.keys.length A2.ck)/\w'.cell? ⟨w.heap.size+1,3,none⟩=some (.slice A2.v t.vals.length A2.cv)/\w'.cell? ⟨w.heap.size+1,4,none⟩=some (.slice A2.c t.counts.length A2.cc)/\w'.cell? ⟨w.heap.size+1,5,none⟩=some (.int .u64 (t.laid:Int)))/\Hid (Below wr.heap.size wr w'))) (by kernel_rfl) (⟨boxes2r (BC.out.below dr) (BX.out.below dr),aq dr⟩) (fun hHeld=>?_);refine tk 0 ?_;refine tk 1 ?_;refine tk 2 ?_;refine tk 3 ?_;refine tk 5 ?_;refine rdH 4 fun K hK=>?_;go_simp;refine (CHn.out _).mono ?_;rintro e w5 ⟨rfl,hb5⟩;go_simp;refine hK.out _ _ (by have q:=hHeld.2.out.trans (hb5.mono hHeld.2.out.size);exact⟨boxes2r (BC.out.below q) (BX.out.below q),aq q⟩) (fun hHeldf1=>?_)
   clear hK K hHeld
   try simp only [sZ]
   refine rdH 6 fun K hK=>?_;go_simp;refine (CM.out A2 _ (OW.out.below hHeldf1.2.out).held).mono ?_;rintro e w6 ⟨rfl,hb6⟩;go_simp;refine hK.out _ _ (by have q:=hHeldf1.2.out.trans (hb6.mono hHeldf1.2.out.size);exact⟨boxes2r (BC.out.below q) (BX.out.below q),aq q⟩) (fun hHeldf2=>?_);clear hK K hHeldf1
   try simp only [sZ]
   refine rdH 7 fun K hK=>?_;go_simp;refine (CNn.out _).mono ?_;rintro e w7 ⟨rfl,hb7⟩;go_simp;refine hK.out _ _ (by have q:=hHeldf2.2.out.trans (hb7.mono hHeldf2.2.out.size);exact⟨boxes2r (BC.out.below q) (BX.out.below q),aq q⟩) (fun hHeldf3=>?_);clear hK K hHeldf2
   try simp only [sZ]
   refine tk 8 ?_;refine wpAnyH_done (by kernel_rfl) ?_ _;have q:=hHeldf3.2.out;clear hHeldf3 dr;replace BC:=aq (BC.out.below q);replace BX:=aq (BX.out.below q);replace BR:=aq (BR.out.below q);replace OW:=aq (OW.out.below q);replace LI:=aq (LI.out.size q.size);replace BB:=aq (BB.out.trans (q.mono BB.out.size));replace zz:=Nat.le_trans zz q.size;replace BK:=aq (BK.out.trans (q.mono BK.out.size));clear q;go_wp2
   go_roundw
   case rel=>exact⟨f',z/2,by first | rfl | go_num,i2,j2,L2.out,E2.out,BK.out⟩
   case measure=>simp [intOf]<;>omega
  ·have E2:=aq (show z=(Z:Int) by
    have e:=HE.out
    cases f with
    | zero=>exact e
    | succ f' =>
     unfold Gp.halve at e;rw [hf,if_pos rfl] at e
     exact e)
   have e2:=E2.out;subst e2;rw [hf] at CNn;clear HS hle hf HI HE E2
   go_upto_region 8 with (fail)
   have dr:=(Below.refl wr.heap.size wr).drew;refine wp_region_held_drew (S:=(fun w'=>(w'.cell? ⟨w.heap.size,0,none⟩=some (.int .u8 c.tag)/\w'.cell? ⟨w.heap.size,1,none⟩=some (.int .i64 c.most)/\w'.cell? ⟨w.heap.size,2,none⟩=some (.int .i64 c.seg)/\w'.cell? ⟨w.heap.size,3,none⟩=some (.int .i64 c.least)/\w'.cell? ⟨w.heap.size,4,none⟩=some (.int .i64 c.den)/\w'.cell? ⟨w.heap.size,5,none⟩=some (.int .i64 c.ll)/\w'.cell? ⟨w.heap.size,6,none⟩=some (.int .i64 c.rl)/\w'.cell? ⟨w.heap.size,7,none⟩=some (.int .i64 c.rh)/\w'.cell? ⟨w.heap.size,8,none⟩=some (.int .i64 c.lh)/\w'.cell? ⟨w.heap.size+1,0,none⟩=some (.int .i64 t.seg)/\w'.cell? ⟨w.heap.size+1,1,none⟩=some (.slice A2.w t.words.length A2.cw)/\w'.cell? ⟨w.heap.size+1,2,none⟩=some (.slice A2.k t.keys.length A2.ck)/\w'.cell? ⟨w.heap.size+1,3,none⟩=some (.slice A2.v t.vals.length A2.cv)/\w'.cell? ⟨w.heap.size+1,4,none⟩=some (.slice A2.c t.counts.length A2.cc)/\w'.cell? ⟨w.heap.size+1,5,none⟩=some (.int .u64 (t.laid:Int)))/\Hid (Below wr.heap.size wr w'))) (by kernel_rfl) (⟨boxes2r (BC.out.below dr) (BX.out.below dr),aq dr⟩) (fun hHeld=>?_);refine tk 0 ?_;refine tk 1 ?_;refine tk 2 ?_;refine tk 3 ?_;refine tk 5 ?_;refine rdH 4 fun K hK=>?_;go_simp;refine (CHn.out _).mono ?_;rintro e w5 ⟨rfl,hb5⟩;go_simp;refine hK.out _ _ (by have q:=hHeld.2.out.trans (hb5.mono hHeld.2.out.size);exact⟨boxes2r (BC.out.below q) (BX.out.below q),aq q⟩) (fun hHelde1=>?_)
   clear hK K hHeld
   try simp only [sZ]
   refine rdH 6 fun K hK=>?_;go_simp;refine (CM.out A2 _ (OW.out.below hHelde1.2.out).held).mono ?_;rintro e w6 ⟨rfl,hb6⟩;go_simp;refine hK.out _ _ (by have q:=hHelde1.2.out.trans (hb6.mono hHelde1.2.out.size);exact⟨boxes2r (BC.out.below q) (BX.out.below q),aq q⟩) (fun hHelde2=>?_);clear hK K hHelde1
   try simp only [sZ]
   refine rdH 7 fun K hK=>?_;go_simp;refine (CNn.out _).mono ?_;rintro e w7 ⟨rfl,hb7⟩;go_simp;refine hK.out _ _ (by have q:=hHelde2.2.out.trans (hb7.mono hHelde2.2.out.size);exact⟨boxes2r (BC.out.below q) (BX.out.below q),aq q⟩) (fun hHelde3=>?_);clear hK K hHelde2
   try simp only [sZ]
   refine tk 8 ?_;refine wpAnyH_done (by kernel_rfl) ?_ _;have q:=hHelde3.2.out;clear hHelde3 dr;replace BC:=aq (BC.out.below q);replace BX:=aq (BX.out.below q);replace BR:=aq (BR.out.below q);replace OW:=aq (OW.out.below q);replace LI:=aq (LI.out.size q.size);replace BB:=aq (BB.out.trans (q.mono BB.out.size));replace zz:=Nat.le_trans zz q.size;replace BK:=aq (BK.out.trans (q.mono BK.out.size));clear q
   go_upto_region 10 with (fail)
   have dr:=(Below.refl w7.heap.size w7).drew;refine wp_region_held_drew (S:=(fun w'=>(w'.cell? ⟨w.heap.size,0,none⟩=some (.int .u8 c.tag)/\w'.cell? ⟨w.heap.size,1,none⟩=some (.int .i64 c.most)/\w'.cell? ⟨w.heap.size,2,none⟩=some (.int .i64 c.seg)/\w'.cell? ⟨w.heap.size,3,none⟩=some (.int .i64 c.least)/\w'.cell? ⟨w.heap.size,4,none⟩=some (.int .i64 c.den)/\w'.cell? ⟨w.heap.size,5,none⟩=some (.int .i64 c.ll)/\w'.cell? ⟨w.heap.size,6,none⟩=some (.int .i64 c.rl)/\w'.cell? ⟨w.heap.size,7,none⟩=some (.int .i64 c.rh)/\w'.cell? ⟨w.heap.size,8,none⟩=some (.int .i64 c.lh)/\w'.cell? ⟨w.heap.size+1,0,none⟩=some (.int .i64 t.seg)/\w'.cell? ⟨w.heap.size+1,1,none⟩=some (.slice A2.w t.words.length A2.cw)/\w'.cell? ⟨w.heap.size+1,2,none⟩=some (.slice A2.k t.keys.length A2.ck)/\w'.cell? ⟨w.heap.size+1,3,none⟩=some (.slice A2.v t.vals.length A2.cv)/\w'.cell? ⟨w.heap.size+1,4,none⟩=some (.slice A2.c t.counts.length A2.cc)/\w'.cell? ⟨w.heap.size+1,5,none⟩=some (.int .u64 (t.laid:Int)))/\Hid (Own w' (w.heap.size+3) t A2/\Below (w.heap.size+1+1) w7 w'))) (by kernel_rfl) (⟨boxes2r (CBox.low BC.out (n:=w.heap.size+1+1) (by omega) ((Below.refl (w.heap.size+1+1) w7).drew)) (Box.low BX.out (n:=w.heap.size+1+1) (by omega) ((Below.refl (w.heap.size+1+1) w7).drew)),aq ⟨OW.out.below dr,(Below.refl (w.heap.size+1+1) w7).drew⟩⟩) (fun hHeld=>?_);refine tk 0 ?_;refine tk 1 ?_;refine tk 2 ?_;refine tk 3 ?_;refine tk 4 ?_;refine tk 5 ?_
   refine rdH 6 fun K hK=>?_;go_simp;refine (CF.out A2 _ (hHeld.2.out.1.held)).mono ?_;rintro e w6 ⟨v,rfl,hr6,hb6⟩;obtain⟨A6,d6,rfl,hp6⟩:=prow_list hr6;go_simp;refine hK.out _ _ (by have l:=hHeld.2.out.2.trans (hb6.mono (by have:=hHeld.2.out.2.size;omega));exact⟨boxes2r (CBox.low BC.out (n:=w.heap.size+1+1) (by omega) (l)) (Box.low BX.out (n:=w.heap.size+1+1) (by omega) (l)),aq ⟨hHeld.2.out.1.below hb6,l⟩⟩) (fun hHeldz1=>?_);clear hK K hHeld
   try simp only [sZ]
   refine rdH 7 fun K hK=>?_;go_simp;refine (CS.out A2 _ _ _ hp6).mono ?_;rintro e w8 ⟨a8,rfl,own,sep,lies,hb8⟩;have z8:=hb8.size;have y8:=hHeldz1.2.out.2.size
   try unfold slv
   go_simp;refine hK.out _ _ (by have l:=hHeldz1.2.out.2.trans (hb8.mono (by have:=hHeldz1.2.out.2.size;omega));exact⟨boxes2r (CBox.low BC.out (n:=w.heap.size+1+1) (by omega) (l)) (Box.low BX.out (n:=w.heap.size+1+1) (by omega) (l)),aq ⟨hHeldz1.2.out.1.below hb8,l⟩⟩) (fun hHeldz2=>?_);clear hK K hHeldz1
   try simp only [sZ]
   refine rdH 8 fun K hK=>?_;obtain⟨_,s0,s1,s2,s3,s4,s5,sf⟩:=((BR.out.below dr).below hb6).below hb8;have⟨sf0,sf1,sf2,sf3,sf4,sf5⟩:=sf6 sf;go_simp;have FIN:=aq (put6_fin (r:=w.heap.size+1+1) own sep lies (BB.out.trans (hHeldz2.2.out.2.mono (by omega))) (by omega) (by omega));have l:=below_put6 (g:=w.heap.size+1+1) hHeldz2.2.out.2 (Nat.le_refl _) (.int .i64 y.seg) (.slice a8.w y.words.length a8.cw) (.slice a8.k y.keys.length a8.ck) (.slice a8.v y.vals.length a8.cv) (.slice a8.c y.counts.length a8.cc) (.int .u64 (y.laid:Int));have o:=hHeldz2.2.out.1;refine hK.out _ _ (⟨boxes2r (CBox.low BC.out (n:=w.heap.size+1+1) (by omega) (l)) (Box.low BX.out (n:=w.heap.size+1+1) (by omega) (l)),aq ⟨⟨o.words.put6 (by omega) _ _ _ _ _ _,o.keys.put6 (by omega) _ _ _ _ _ _,o.vals.put6 (by omega) _ _ _ _ _ _,o.counts.put6 (by omega) _ _ _ _ _ _,o.caps⟩,l⟩⟩) (fun hHeldz3=>?_);clear hK K hHeldz2
   try simp only [sZ]
   refine wpAnyH_done (by kernel_rfl) ?_ _;clear hHeldz3;go_wp2;refine bodyPost_ret (v:=slv y a8) (by simp [results,Tryz.results37,go_sem,slv,s0,s1,s2,s3,s4,s5,sf0,sf1,sf2,sf3,sf4,sf5]) rfl ?_;exact⟨_,rfl,FIN.out _ _ _ _ _ _⟩
theorem r9GoneMid (c:Cf) (s:Sl) (a:Ads) (H k:Nat) (w:World) (h:Held w s a) (hok:s.Ok) (hs:s.Short) (O:Gp.Own c s H) (hk:(k:Int) < Gp.many s) (g:Nat) (h0:1<=g) (hway:Gp.under c (s.emptied (Gp.place s k)) (Gp.place s k)=(g:Int)-1) (hm:g<=H) :
  Calls Tryz.prog 37 #[cfv c,slv s a,.int .i64 (k:Int)] w (SPost (Gp.goneS c (s.emptied (Gp.place s k)) (Gp.place s k)) w):=by
 have p:=Gp.place_in hk;have C:=Gp.clr_of O.may hk;have BF:=Gp.bare_full O hk;obtain⟨x,hx⟩:∃ x,x=Gp.place s k:=⟨_,rfl⟩;rw [<-hx] at p C BF hway ⊢;have p1:=p.1;have l2:=hs.keys;have g1:=O.cap.fit.g1
 have sz:c.seg<=(s.keys.length:Int):=by
  have e:=O.cap.wide_le (Nat.zero_le H)
  have:c.wide ((0:Nat):Int)=c.seg:=by show c.seg*2^0=_;simp
  omega
 have FT0:=may_fit (may_iff.2 O.may) hok hs
 have CP:=aq (show ∀ W,Below w.heap.size w W->Calls Tryz.prog 86 #[slv s a,.int .i64 (k:Int)] W fun e w'=>e=.returned (.int .i64 (x:Int))/\Below W.heap.size W w' from fun W hb=>by
  rw [hx]
  exact r9Place s a k W (h.below hb) hok hs O.may hk)
 have CE:=aq (fun W (hb:Below w.heap.size w W)=>r4Emptied s a x 64 W (h.below hb) FT0 (by omega) p1);obtain⟨t,ht⟩:∃ t,t=s.emptied x:=⟨_,rfl⟩
 have tk:t.keys.length=s.keys.length:=by rw [ht];exact C.keys
 have tM:t.May:=by rw [ht];exact C.may
 have tO:t.Ok:=by rw [ht];exact (FT0.emptied (by omega) x).ok
 have tS:t.Short:=by rw [ht];exact hs.emptied x
 have tG:t.seg=c.seg:=by rw [ht];exact O.seg
 have KT:Gp.Cap c t.keys.length H:=by rw [tk];exact O.cap
 have FT:=may_fit (may_iff.2 tM) tO tS
 have hxt:x < t.keys.length:=by omega
 have tl2:t.keys.length<=65536:=by omega
 rw [<-ht] at CE BF hway ⊢;have CU:=aq (fun A W (hv:Held W t A)=>r9under c t A H x W hv tS tM KT tG hxt);have CH:=aq (fun W=>r5Height c t.keys.length W g1 (by omega) (by omega));rw [KT.high] at CH;obtain⟨W1,hW1⟩:∃ W1,W1=((w.alloc (.cells (cfCells c) 32)).alloc (.cells #[.int .i64 s.seg,.slice a.w s.words.length a.cw,.slice a.k s.keys.length a.ck,.slice a.v s.vals.length a.cv,.slice a.c s.counts.length a.cc,.int .u64 (s.laid:Int)] 27)).alloc (.cells #[.int .i64 0,.slice none 0 0,.slice none 0 0,.slice none 0 0,.slice none 0 0,.int .u64 0] 27):=⟨_,rfl⟩;have BB:=aq (show Below w.heap.size w W1 by rw [hW1];exact (((Below.refl w.heap.size w).alloc (Nat.le_refl _) _).alloc (by simp) _).alloc (by simp;omega) _);have BC:=aq (show CBox W1 w.heap.size c by rw [hW1];exact ((CBox.new w c 32).below ((Below.refl _ _).alloc (Nat.le_refl _) _)).below ((Below.refl _ _).alloc (Nat.le_refl _) _));have BX:=aq (show Box W1 (w.heap.size+1) s a by rw [hW1];exact (Box.second w _ s a 27).below ((Below.refl _ _).alloc (Nat.le_refl _) _))
 have BR:=aq (show Box W1 (w.heap.size+1+1) Sl.none adsNone by
  rw [hW1];have q:=Box.new ((w.alloc (.cells (cfCells c) 32)).alloc (.cells #[.int .i64 s.seg,.slice a.w s.words.length a.cw,.slice a.k s.keys.length a.ck,.slice a.v s.vals.length a.cv,.slice a.c s.counts.length a.cc,.int .u64 (s.laid:Int)] 27)) Sl.none adsNone 27
  simp only [World.size_alloc] at q
  exact q)
 have zz:w.heap.size+3<=W1.heap.size:=by rw [hW1];simp
 obtain⟨q,v1,v2,v3,v4,v5,v6⟩:=Gp.win_of KT hm hxt;have h14:=O.cap.fit.h14;obtain⟨x0,E1⟩:∃ x0:Nat,Gp.lo c (g:Int) x=x0:=⟨(Gp.lo c (g:Int) x).toNat,by omega⟩;obtain⟨y0,E2⟩:∃ y0:Nat,Gp.hi c (g:Int) x=y0:=⟨(Gp.hi c (g:Int) x).toNat,by omega⟩
 have hy:y0<=t.keys.length:=by omega
 have oc:=Gp.of_cnt t x0 y0;have cl:=Gp.cnt_le t (a:=(x0:Int)) (b:=(y0:Int)) (by omega) (by omega);have A64:=of_in64 tO x0 y0;have g2:=O.may.seg2;rw [O.seg] at g2;obtain⟨y,hyy⟩:∃ y,y=Ly.spreadS t x0 y0 (t.of x0 y0):=⟨_,rfl⟩
 have V:=aq (show Gp.goneS c t x=y by
  unfold Gp.goneS
  rw [hway,if_neg (by omega),if_neg (by rw [KT.high];omega),show (g:Int)-1+1=(g:Int) from by omega,E1,E2,hyy,Int.toNat_natCast,Int.toNat_natCast])
 rw [V.out]
 have CI:=aq (show ∀ W,Calls Tryz.prog 84 #[.int .i64 c.seg,.int .i64 (g:Int),.int .i64 (x:Int)] W fun e w'=>e=.returned (.tuple #[.int .i64 (x0:Int),.int .i64 (y0:Int)])/\W=w' from fun W=>by
  rw [<-E1,<-E2]
  exact r6Of c.seg g x W g1 g2 (by omega) (by omega) (by omega) (by omega))
 have CF:=aq (fun A W (hv:Held W t A)=>r4Of t A x0 y0 W hv tO tS tM.vals hy (by have:=tM.wlen;omega) (by omega))
 have CS:=aq (show ∀ A W A6 d6,Held W t A->PLst W A6 (t.of x0 y0)->Calls Tryz.prog 85 #[slv t A,.int .i64 (x0:Int),.int .i64 (y0:Int),.slice A6 (t.of x0 y0).length d6] W (SPost y W) from fun A W A6 d6 hv hp=>by
  rw [hyy]
  exact r8Spread t A x0 y0 A6 d6 (t.of x0 y0) W hv FT hy (by omega) hp A64)
 obtain⟨ps,hps⟩:∃ ps,ps=t.of x0 y0:=⟨_,rfl⟩;rw [<-hps] at CF CS;rw [hway] at CU
 have k1:decide ((g:Int)-1 < 0)=false:=by simp;omega
 have k2:((g:Int)-1==(H:Int))=false:=by simp;omega
 have gb:(g:Int)<=65536:=by omega
 have xb:(x0:Int)<=65536/\(y0:Int)<=65536:=by omega
 clear tk h hok hs O hk p p1 C BF hx FT0 ht tM tO tS tG KT FT hway V hxt E1 E2 hy oc cl A64 hyy hps v1 v2 v3 v4 v5 v6 h14 g2 hm;unfold slv at CP CE CU CF CS;unfold cfv at CU CH;unfold slv cfv
 go_enter Tryz.func37,Tryz.ntmps37
 unfold cfCells at hW1
 go_upto_region 1 with (fail)
 rw [<-hW1];clear hW1;obtain⟨_,c0,c1,c2,c3,c4,c5,c6,c7,c8,_⟩:=BC.out;obtain⟨_,q0,q1,q2,q3,q4,q5,_⟩:=BX.out
 go_wp2_with fail
 refine (CP.out _ BB.out).mono ?_;rintro e w1 ⟨rfl,hb⟩;clear c0 c1 c2 c3 c4 c5 c6 c7 c8 q0 q1 q2 q3 q4 q5;replace BC:=aq (BC.out.below hb);replace BX:=aq (BX.out.below hb);replace BR:=aq (BR.out.below hb);replace BB:=aq (BB.out.trans (hb.mono BB.out.size));replace zz:=Nat.le_trans zz hb.size;clear hb;obtain⟨_,c0,c1,c2,c3,c4,c5,c6,c7,c8,_⟩:=BC.out;obtain⟨_,q0,q1,q2,q3,q4,q5,_⟩:=BX.out
 go_wp2_with fail
 refine (CE.out _ BB.out).mono ?_;rintro e w2 ⟨A2,rfl,own,sep,lies,hb⟩;clear c0 c1 c2 c3 c4 c5 c6 c7 c8 q0 q1 q2 q3 q4 q5;have z1:=zz;replace BC:=aq (BC.out.below hb);replace BX:=aq (BX.out.below hb);replace BR:=aq (BR.out.below hb);replace BB:=aq (BB.out.trans (hb.mono BB.out.size));replace zz:=Nat.le_trans zz hb.size;clear hb;unfold slv;obtain⟨_,q0,q1,q2,q3,q4,q5,qf⟩:=BX.out;have qf0:=qf 0;have qf1:=qf 1;have qf2:=qf 2;have qf3:=qf 3;have qf4:=qf 4;have qf5:=qf 5;clear qf;have g0:=BX.out.lt
 go_upto_region 3 with (fail)
 obtain⟨V2,hV⟩:∃ V,V=put6 w2 (w.heap.size+1) (.int .i64 t.seg) (.slice A2.w t.words.length A2.cw) (.slice A2.k t.keys.length A2.ck) (.slice A2.v t.vals.length A2.cv) (.slice A2.c t.counts.length A2.cc) (.int .u64 (t.laid:Int)):=⟨_,rfl⟩
 have hs2:V2.heap.size=w2.heap.size:=by rw [hV];simp [put6]
 replace BX:=aq (show Box V2 (w.heap.size+1) t A2 by rw [hV];exact BX.out.put6 t A2);replace BR:=aq (show Box V2 (w.heap.size+1+1) Sl.none adsNone by rw [hV];exact BR.out.put6o (by omega) _ _ _ _ _ _);replace BC:=aq (show CBox V2 w.heap.size c by rw [hV];exact CBox.low BC.out (n:=w.heap.size+1) (by omega) (below_put6 (Below.refl (w.heap.size+1) w2) (Nat.le_refl _) _ _ _ _ _ _));have OW:=aq (show Own V2 (w.heap.size+3) t A2 by rw [hV];exact⟨(own.words.put6 (by omega) _ _ _ _ _ _).lower (by omega),(own.keys.put6 (by omega) _ _ _ _ _ _).lower (by omega),(own.vals.put6 (by omega) _ _ _ _ _ _).lower (by omega),(own.counts.put6 (by omega) _ _ _ _ _ _).lower (by omega),own.caps⟩);have LI:=aq (show Lies V2 (w.heap.size+3) A2 from (lies.lower (by omega)).size (by omega));have SP:=aq sep;replace BB:=aq (show Below w.heap.size w V2 by rw [hV];exact below_put6 BB.out (Nat.le_succ _) _ _ _ _ _ _)
 replace zz:w.heap.size+3<=V2.heap.size:=by omega
 unfold put6 at hV
 first | rw [<-hV] | skip
 clear hV own lies sep q0 q1 q2 q3 q4 q5 qf0 qf1 qf2 qf3 qf4 qf5 g0 hs2 z1;obtain⟨_,c0,c1,c2,c3,c4,c5,c6,c7,c8,_⟩:=BC.out;obtain⟨_,q0,q1,q2,q3,q4,q5,_⟩:=BX.out
 go_wp2_with fail
 refine (CU.out A2 _ OW.out.held).mono ?_;rintro e w3 ⟨rfl,hb⟩;clear c0 c1 c2 c3 c4 c5 c6 c7 c8 q0 q1 q2 q3 q4 q5;replace BC:=aq (BC.out.below hb);replace BX:=aq (BX.out.below hb);replace BR:=aq (BR.out.below hb);replace OW:=aq (OW.out.below hb);replace LI:=aq (LI.out.size hb.size);replace BB:=aq (BB.out.trans (hb.mono BB.out.size));replace zz:=Nat.le_trans zz hb.size;clear hb;obtain⟨_,c0,c1,c2,c3,c4,c5,c6,c7,c8,_⟩:=BC.out;obtain⟨_,q0,q1,q2,q3,q4,q5,_⟩:=BX.out
 go_wp2_with fail
 refine (CH.out _).mono ?_;rintro e w4 ⟨rfl,hb⟩;clear c0 c1 c2 c3 c4 c5 c6 c7 c8 q0 q1 q2 q3 q4 q5;replace BC:=aq (BC.out.below hb);replace BX:=aq (BX.out.below hb);replace BR:=aq (BR.out.below hb);replace OW:=aq (OW.out.below hb);replace LI:=aq (LI.out.size hb.size);replace BB:=aq (BB.out.trans (hb.mono BB.out.size));replace zz:=Nat.le_trans zz hb.size;clear hb;obtain⟨_,c0,c1,c2,c3,c4,c5,c6,c7,c8,_⟩:=BC.out
 go_wp2_with fail
 refine (CI.out _).mono ?_;rintro e w5 ⟨rfl,rfl⟩;clear c0 c1 c2 c3 c4 c5 c6 c7 c8
 go_upto_region 12 with (fail)
 have dr:=(Below.refl w4.heap.size w4).drew;refine wp_region_held_drew (S:=(fun w'=>(w'.cell? ⟨w.heap.size,0,none⟩=some (.int .u8 c.tag)/\w'.cell? ⟨w.heap.size,1,none⟩=some (.int .i64 c.most)/\w'.cell? ⟨w.heap.size,2,none⟩=some (.int .i64 c.seg)/\w'.cell? ⟨w.heap.size,3,none⟩=some (.int .i64 c.least)/\w'.cell? ⟨w.heap.size,4,none⟩=some (.int .i64 c.den)/\w'.cell? ⟨w.heap.size,5,none⟩=some (.int .i64 c.ll)/\w'.cell? ⟨w.heap.size,6,none⟩=some (.int .i64 c.rl)/\w'.cell? ⟨w.heap.size,7,none⟩=some (.int .i64 c.rh)/\w'.cell? ⟨w.heap.size,8,none⟩=some (.int .i64 c.lh)/\w'.cell? ⟨w.heap.size+1,0,none⟩=some (.int .i64 t.seg)/\w'.cell? ⟨w.heap.size+1,1,none⟩=some (.slice A2.w t.words.length A2.cw)/\w'.cell? ⟨w.heap.size+1,2,none⟩=some (.slice A2.k t.keys.length A2.ck)/\w'.cell? ⟨w.heap.size+1,3,none⟩=some (.slice A2.v t.vals.length A2.cv)/\w'.cell? ⟨w.heap.size+1,4,none⟩=some (.slice A2.c t.counts.length A2.cc)/\w'.cell? ⟨w.heap.size+1,5,none⟩=some (.int .u64 (t.laid:Int)))/\Hid (Own w' (w.heap.size+3) t A2/\Below (w.heap.size+1+1) w4 w'))) (by kernel_rfl) (⟨boxes2r (CBox.low BC.out (n:=w.heap.size+1+1) (by omega) ((Below.refl (w.heap.size+1+1) w4).drew)) (Box.low BX.out (n:=w.heap.size+1+1) (by omega) ((Below.refl (w.heap.size+1+1) w4).drew)),aq ⟨OW.out.below dr,(Below.refl (w.heap.size+1+1) w4).drew⟩⟩) (fun hHeld=>?_);refine tk 0 ?_;refine tk 1 ?_;refine tk 2 ?_;refine tk 3 ?_;refine tk 4 ?_;refine tk 5 ?_
 refine rdH 6 fun K hK=>?_;go_simp;refine (CF.out A2 _ (hHeld.2.out.1.held)).mono ?_;rintro e w6 ⟨v,rfl,hr6,hb6⟩;obtain⟨A6,d6,rfl,hp6⟩:=prow_list hr6;go_simp;refine hK.out _ _ (by have l:=hHeld.2.out.2.trans (hb6.mono (by have:=hHeld.2.out.2.size;omega));exact⟨boxes2r (CBox.low BC.out (n:=w.heap.size+1+1) (by omega) (l)) (Box.low BX.out (n:=w.heap.size+1+1) (by omega) (l)),aq ⟨hHeld.2.out.1.below hb6,l⟩⟩) (fun hHeldz1=>?_);clear hK K hHeld
 try simp only [sZ]
 refine rdH 7 fun K hK=>?_;go_simp;refine (CS.out A2 _ _ _ (hHeldz1.2.out.1.held) hp6).mono ?_;rintro e w8 ⟨a8,rfl,own,sep,lies,hb8⟩;have z8:=hb8.size;have y8:=hHeldz1.2.out.2.size
 try unfold slv
 go_simp;refine hK.out _ _ (by have l:=hHeldz1.2.out.2.trans (hb8.mono (by have:=hHeldz1.2.out.2.size;omega));exact⟨boxes2r (CBox.low BC.out (n:=w.heap.size+1+1) (by omega) (l)) (Box.low BX.out (n:=w.heap.size+1+1) (by omega) (l)),aq ⟨hHeldz1.2.out.1.below hb8,l⟩⟩) (fun hHeldz2=>?_);clear hK K hHeldz1
 try simp only [sZ]
 refine rdH 8 fun K hK=>?_;obtain⟨_,s0,s1,s2,s3,s4,s5,sf⟩:=((BR.out.below dr).below hb6).below hb8;have⟨sf0,sf1,sf2,sf3,sf4,sf5⟩:=sf6 sf;go_simp;have FIN:=aq (put6_fin (r:=w.heap.size+1+1) own sep lies (BB.out.trans (hHeldz2.2.out.2.mono (by omega))) (by omega) (by omega));have l:=below_put6 (g:=w.heap.size+1+1) hHeldz2.2.out.2 (Nat.le_refl _) (.int .i64 y.seg) (.slice a8.w y.words.length a8.cw) (.slice a8.k y.keys.length a8.ck) (.slice a8.v y.vals.length a8.cv) (.slice a8.c y.counts.length a8.cc) (.int .u64 (y.laid:Int));have o:=hHeldz2.2.out.1;refine hK.out _ _ (⟨boxes2r (CBox.low BC.out (n:=w.heap.size+1+1) (by omega) (l)) (Box.low BX.out (n:=w.heap.size+1+1) (by omega) (l)),aq ⟨⟨o.words.put6 (by omega) _ _ _ _ _ _,o.keys.put6 (by omega) _ _ _ _ _ _,o.vals.put6 (by omega) _ _ _ _ _ _,o.counts.put6 (by omega) _ _ _ _ _ _,o.caps⟩,l⟩⟩) (fun hHeldz3=>?_);clear hK K hHeldz2
 try simp only [sZ]
 refine wpAnyH_done (by kernel_rfl) ?_ _;clear hHeldz3;go_wp2;refine bodyPost_ret (v:=slv y a8) (by simp [results,Tryz.results37,go_sem,slv,s0,s1,s2,s3,s4,s5,sf0,sf1,sf2,sf3,sf4,sf5]) rfl ?_;exact⟨_,rfl,FIN.out _ _ _ _ _ _⟩
theorem r9Gone (c:Cf) (s:Sl) (a:Ads) (H k:Nat) (w:World) (hc:c.In) (h:Held w s a) (hok:s.Ok) (hs:s.Short) (O:Gp.Own c s H) (hk:(k:Int) < Gp.many s) :
  Calls Tryz.prog 37 #[cfv c,slv s a,.int .i64 (k:Int)] w (SPost (Gp.goneS c (s.emptied (Gp.place s k)) (Gp.place s k)) w):=by
 have K:Gp.Cap c (s.emptied (Gp.place s k)).keys.length H:=by rw [(Gp.clr_of O.may hk).keys];exact O.cap
 obtain⟨g,e1,e2,e3,e4⟩:=Gp.under_spec K (Gp.place s k)
 by_cases h0:g=0
 ·exact r9GoneNone c s a H k w h hok hs O hk (by omega)
 ·by_cases h1:g=H+1
  ·exact r9GoneTop c s a H k w h hok hs O hk (by omega)
  ·exact r9GoneMid c s a H k w h hok hs O hk g (by omega) (by omega) (by omega)
theorem r9Take (c:Cf) (s:Sl) (a:Ads) (k:Int) (w:World) (hc:c.In) (h:Held w s a) (hok:s.Ok) (hs:s.Short) (ik:In64 k) :
  Calls Tryz.prog 17 #[cfv c,slv s a,.int .i64 k] w (SPost2 (Gp.takeS c s k) (Gp.takeE c s k) w):=by
 obtain⟨W1,hW1⟩:∃ W1,W1=((w.alloc (.cells (cfCells c) 32)).alloc (.cells #[.int .i64 s.seg,.slice a.w s.words.length a.cw,.slice a.k s.keys.length a.ck,.slice a.v s.vals.length a.cv,.slice a.c s.counts.length a.cc,.int .u64 (s.laid:Int)] 27)).alloc (.cells #[.int .i64 0,.slice none 0 0,.slice none 0 0,.slice none 0 0,.slice none 0 0,.int .u64 0] 27):=⟨_,rfl⟩;have BB:=aq (show Below w.heap.size w W1 by rw [hW1];exact (((Below.refl w.heap.size w).alloc (Nat.le_refl _) _).alloc (by simp) _).alloc (by simp;omega) _);have BC:=aq (show CBox W1 w.heap.size c by rw [hW1];exact ((CBox.new w c 32).below ((Below.refl _ _).alloc (Nat.le_refl _) _)).below ((Below.refl _ _).alloc (Nat.le_refl _) _));have BX:=aq (show Box W1 (w.heap.size+1) s a by rw [hW1];exact (Box.second w _ s a 27).below ((Below.refl _ _).alloc (Nat.le_refl _) _))
 have BR:=aq (show Box W1 (w.heap.size+1+1) Sl.none adsNone by
  rw [hW1];have q:=Box.new ((w.alloc (.cells (cfCells c) 32)).alloc (.cells #[.int .i64 s.seg,.slice a.w s.words.length a.cw,.slice a.k s.keys.length a.ck,.slice a.v s.vals.length a.cv,.slice a.c s.counts.length a.cc,.int .u64 (s.laid:Int)] 27)) Sl.none adsNone 27
  simp only [World.size_alloc] at q
  exact q)
 have zz:w.heap.size+1+1+1<=W1.heap.size:=by rw [hW1];simp
 have CC:=aq (fun W (hb:Below w.heap.size w W)=>r9Check c s a W hc (h.below hb) hok hs);have l2:=hs.keys
 by_cases h0:Gp.chkE c s=0
 ·obtain⟨H,K⟩:=Gp.own_of h0
  have CM:=aq (fun W (hb:Below w.heap.size w W)=>r9Many s a W (h.below hb) hs K.may);have mb:0<=Gp.many s/\Gp.many s<=65536:=⟨Gp.cnt_nn _ _ _,by have:=Gp.many_le (s:=s);omega⟩;rw [h0] at CC
  by_cases h1:k < 0
  ·have E:=aq (show Gp.takeE c s k=2 by unfold Gp.takeE;rw [if_pos h0,if_neg (by omega)])
   have V:=aq (show Gp.takeS c s k=Sl.none by unfold Gp.takeS;rw [if_neg (by rw [E.out];decide)]);rw [E.out,V.out]
   have k1:decide (k < 0)=true:=by simp [h1]
   clear K hc h hok hs ik E V h0 CM h1;unfold slv cfv;unfold slv cfv at CC
   go_enter Tryz.func17,Tryz.ntmps17
   unfold cfCells at hW1
   go_upto_region 1 with (fail)
   rw [<-hW1];clear hW1;obtain⟨_,c0,c1,c2,c3,c4,c5,c6,c7,c8,_⟩:=BC.out;obtain⟨_,q0,q1,q2,q3,q4,q5,_⟩:=BX.out
   go_wp2_with fail
   refine (CC.out _ BB.out).mono ?_;rintro e w1 ⟨rfl,hb⟩;clear c0 c1 c2 c3 c4 c5 c6 c7 c8 q0 q1 q2 q3 q4 q5;replace BC:=aq (BC.out.below hb);replace BX:=aq (BX.out.below hb);replace BR:=aq (BR.out.below hb);replace BB:=aq (BB.out.trans (hb.mono BB.out.size));replace zz:=Nat.le_trans zz hb.size;clear hb;obtain⟨_,c0,c1,c2,c3,c4,c5,c6,c7,c8,_⟩:=BC.out;obtain⟨_,q0,q1,q2,q3,q4,q5,_⟩:=BX.out;obtain⟨_,s0,s1,s2,s3,s4,s5,sf⟩:=BR.out;have⟨sf0,sf1,sf2,sf3,sf4,sf5⟩:=sf6 sf;clear sf;go_wp2;refine bodyPost_ret (v:=.tuple #[slv Sl.none adsNone,.int .i64 2]) (by simp [results,Tryz.results17,go_sem,slv,Sl.none,adsNone,s0,s1,s2,s3,s4,s5,sf0,sf1,sf2,sf3,sf4,sf5]) rfl ?_;exact⟨_,rfl,(none_own _ _).1,(none_own w 0).2.1,(none_own _ _).2.2,below_put6 BB.out (by omega) _ _ _ _ _ _⟩
  ·have k1:decide (k < 0)=false:=by simp;omega
   by_cases h2:Gp.many s<=k
   ·have E:=aq (show Gp.takeE c s k=2 by unfold Gp.takeE;rw [if_pos h0,if_neg (by omega)])
    have V:=aq (show Gp.takeS c s k=Sl.none by unfold Gp.takeS;rw [if_neg (by rw [E.out];decide)]);rw [E.out,V.out];obtain⟨M,hM⟩:∃ M,M=Gp.many s:=⟨_,rfl⟩;rw [<-hM] at CM h2 mb
    have k2:decide (k ≥ M)=true:=by simp;omega
    have k3:decide (M<=k)=true:=by simp;omega
    clear K hc h hok hs ik E V h0 h1 h2 hM;unfold slv cfv;unfold slv cfv at CC;unfold slv at CM
    go_enter Tryz.func17,Tryz.ntmps17
    unfold cfCells at hW1
    go_upto_region 1 with (fail)
    rw [<-hW1];clear hW1;obtain⟨_,c0,c1,c2,c3,c4,c5,c6,c7,c8,_⟩:=BC.out;obtain⟨_,q0,q1,q2,q3,q4,q5,_⟩:=BX.out
    go_wp2_with fail
    refine (CC.out _ BB.out).mono ?_;rintro e w1 ⟨rfl,hb⟩;clear c0 c1 c2 c3 c4 c5 c6 c7 c8 q0 q1 q2 q3 q4 q5;replace BC:=aq (BC.out.below hb);replace BX:=aq (BX.out.below hb);replace BR:=aq (BR.out.below hb);replace BB:=aq (BB.out.trans (hb.mono BB.out.size));replace zz:=Nat.le_trans zz hb.size;clear hb;obtain⟨_,c0,c1,c2,c3,c4,c5,c6,c7,c8,_⟩:=BC.out;obtain⟨_,q0,q1,q2,q3,q4,q5,_⟩:=BX.out
    go_wp2_with fail
    refine (CM.out _ BB.out).mono ?_;rintro e w2 ⟨rfl,hb⟩;clear c0 c1 c2 c3 c4 c5 c6 c7 c8 q0 q1 q2 q3 q4 q5;replace BC:=aq (BC.out.below hb);replace BX:=aq (BX.out.below hb);replace BR:=aq (BR.out.below hb);replace BB:=aq (BB.out.trans (hb.mono BB.out.size));replace zz:=Nat.le_trans zz hb.size;clear hb;obtain⟨_,c0,c1,c2,c3,c4,c5,c6,c7,c8,_⟩:=BC.out;obtain⟨_,q0,q1,q2,q3,q4,q5,_⟩:=BX.out;obtain⟨_,s0,s1,s2,s3,s4,s5,sf⟩:=BR.out;have⟨sf0,sf1,sf2,sf3,sf4,sf5⟩:=sf6 sf;clear sf;go_wp2;refine bodyPost_ret (v:=.tuple #[slv Sl.none adsNone,.int .i64 2]) (by simp [results,Tryz.results17,go_sem,slv,Sl.none,adsNone,s0,s1,s2,s3,s4,s5,sf0,sf1,sf2,sf3,sf4,sf5]) rfl ?_;exact⟨_,rfl,(none_own _ _).1,(none_own w 0).2.1,(none_own _ _).2.2,below_put6 BB.out (by omega) _ _ _ _ _ _⟩
   ·have k2:decide (k ≥ Gp.many s)=false:=by simp;omega
    have k3:decide (Gp.many s<=k)=false:=by simp;omega
    have E:=aq (show Gp.takeE c s k=0 by unfold Gp.takeE;rw [if_pos h0,if_pos (by omega)]);obtain⟨t,ht⟩:∃ t,t=Gp.goneS c (s.emptied (Gp.place s k.toNat)) (Gp.place s k.toNat):=⟨_,rfl⟩;have V:=aq (show Gp.takeS c s k=t by unfold Gp.takeS;rw [if_pos E.out,ht])
    have CL:=aq (show ∀ W,Below w.heap.size w W->Calls Tryz.prog 37 #[cfv c,slv s a,.int .i64 k] W (SPost t W) from fun W hb=>by
     rw [ht];have:=r9Gone c s a H k.toNat W hc (h.below hb) hok hs K (by omega)
     rwa [show ((k.toNat:Nat):Int)=k from by omega] at this)
    rw [E.out,V.out];obtain⟨M,hM⟩:∃ M,M=Gp.many s:=⟨_,rfl⟩;rw [<-hM] at CM k2 k3 mb;clear K hc h hok hs ik E V ht h0 h1 h2 hM;unfold slv cfv;unfold slv cfv at CC CL;unfold slv at CM
    go_enter Tryz.func17,Tryz.ntmps17
    unfold cfCells at hW1
    go_upto_region 1 with (fail)
    rw [<-hW1];clear hW1;obtain⟨_,c0,c1,c2,c3,c4,c5,c6,c7,c8,_⟩:=BC.out;obtain⟨_,q0,q1,q2,q3,q4,q5,_⟩:=BX.out
    go_wp2_with fail
    refine (CC.out _ BB.out).mono ?_;rintro e w1 ⟨rfl,hb⟩;clear c0 c1 c2 c3 c4 c5 c6 c7 c8 q0 q1 q2 q3 q4 q5;replace BC:=aq (BC.out.below hb);replace BX:=aq (BX.out.below hb);replace BR:=aq (BR.out.below hb);replace BB:=aq (BB.out.trans (hb.mono BB.out.size));replace zz:=Nat.le_trans zz hb.size;clear hb;obtain⟨_,c0,c1,c2,c3,c4,c5,c6,c7,c8,_⟩:=BC.out;obtain⟨_,q0,q1,q2,q3,q4,q5,_⟩:=BX.out
    go_wp2_with fail
    refine (CM.out _ BB.out).mono ?_;rintro e w2 ⟨rfl,hb⟩;clear c0 c1 c2 c3 c4 c5 c6 c7 c8 q0 q1 q2 q3 q4 q5;replace BC:=aq (BC.out.below hb);replace BX:=aq (BX.out.below hb);replace BR:=aq (BR.out.below hb);replace BB:=aq (BB.out.trans (hb.mono BB.out.size));replace zz:=Nat.le_trans zz hb.size;clear hb;obtain⟨_,c0,c1,c2,c3,c4,c5,c6,c7,c8,_⟩:=BC.out;obtain⟨_,q0,q1,q2,q3,q4,q5,_⟩:=BX.out
    go_wp2_with fail
    refine (CL.out _ BB.out).mono ?_;rintro e w4 ⟨a2,rfl,own,sep,lies,hb⟩;obtain⟨_,s0,s1,s2,s3,s4,s5,sf⟩:=BR.out.below hb;have⟨sf0,sf1,sf2,sf3,sf4,sf5⟩:=sf6 sf;have FIN:=aq (put6_fin (r:=w.heap.size+1+1) own sep lies (BB.out.trans (hb.mono BB.out.size)) (by have:=hb.size;omega) (by omega));clear own sep lies hb sf c0 c1 c2 c3 c4 c5 c6 c7 c8 q0 q1 q2 q3 q4 q5;unfold slv;go_wp2;refine bodyPost_ret (v:=.tuple #[slv t a2,.int .i64 0]) (by simp [results,Tryz.results17,go_sem,slv,s0,s1,s2,s3,s4,s5,sf0,sf1,sf2,sf3,sf4,sf5]) rfl ?_;exact⟨_,rfl,FIN.out _ _ _ _ _ _⟩
 ·obtain⟨er,her⟩:∃ er,er=Gp.chkE c s:=⟨_,rfl⟩
  rw [<-her] at h0 CC;have E:=aq (show Gp.takeE c s k=er by unfold Gp.takeE;rw [<-her,if_neg h0]);have V:=aq (show Gp.takeS c s k=Sl.none by unfold Gp.takeS;rw [if_neg (by rw [E.out];exact h0)])
  have k1:(er != 0)=true:=by simp [h0]
  rw [E.out,V.out];clear hc h hok hs ik E V her h0;unfold slv cfv;unfold slv cfv at CC
  go_enter Tryz.func17,Tryz.ntmps17
  unfold cfCells at hW1
  go_upto_region 1 with (fail)
  rw [<-hW1];clear hW1;obtain⟨_,c0,c1,c2,c3,c4,c5,c6,c7,c8,_⟩:=BC.out;obtain⟨_,q0,q1,q2,q3,q4,q5,_⟩:=BX.out
  go_wp2_with fail
  refine (CC.out _ BB.out).mono ?_;rintro e w1 ⟨rfl,hb⟩;clear c0 c1 c2 c3 c4 c5 c6 c7 c8 q0 q1 q2 q3 q4 q5;replace BC:=aq (BC.out.below hb);replace BX:=aq (BX.out.below hb);replace BR:=aq (BR.out.below hb);replace BB:=aq (BB.out.trans (hb.mono BB.out.size));replace zz:=Nat.le_trans zz hb.size;clear hb;obtain⟨_,c0,c1,c2,c3,c4,c5,c6,c7,c8,_⟩:=BC.out;obtain⟨_,q0,q1,q2,q3,q4,q5,_⟩:=BX.out;obtain⟨_,s0,s1,s2,s3,s4,s5,sf⟩:=BR.out;have⟨sf0,sf1,sf2,sf3,sf4,sf5⟩:=sf6 sf;clear sf;go_wp2;refine bodyPost_ret (v:=.tuple #[slv Sl.none adsNone,.int .i64 er]) (by simp [results,Tryz.results17,go_sem,slv,Sl.none,adsNone,s0,s1,s2,s3,s4,s5,sf0,sf1,sf2,sf3,sf4,sf5]) rfl ?_;exact⟨_,rfl,(none_own _ _).1,(none_own w 0).2.1,(none_own _ _).2.2,below_put6 BB.out (by omega) _ _ _ _ _ _⟩
end Go.Proofs.YthaaapfnheocjaaGreatDoor
