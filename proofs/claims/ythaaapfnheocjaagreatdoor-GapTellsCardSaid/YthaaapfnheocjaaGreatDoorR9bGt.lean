/- What the document's own Added and Put return. -/
import Derived.Test.YthaaapfnheocjaaGreatDoorTkGt
import Derived.Test.YthaaapfnheocjaaGreatDoorR9aGt
import Derived.Test.YthaaapfnheocjaaGreatDoorP9fGt
import Derived.Test.YthaaapfnheocjaaGreatDoorP9rGt
set_option linter.unusedVariables false
set_option linter.unusedSimpArgs false
set_option maxHeartbeats 4000000
set_option maxRecDepth 100000
namespace Go.Proofs.YthaaapfnheocjaaGreatDoor
open Go.RowKit
namespace Gp
theorem added_in {c:Cf} {s:Sl} {H:Nat} (O:Own c s H) {k:Int} (h0:0<=k) (h1:k<=many s) (p:Int×Int) {g:Nat} (hg:g<=H) (ho:over c s (home s k)=(g:Int)-1) :
  ∃ a b j:Nat,lo c g (home s k)=(a:Int)/\hi c g (home s k)=(b:Int)/\k-cnt s 0 (a:Int)=(j:Int)/\j<=(s.of a b).length/\a+(s.of a b).length+1<=b/\b<=s.keys.length/\addS c s k p=Ly.spreadS s a b (Ly.among (s.of a b) j p):=by
 have K:=O.cap;have hx:=home_in O.may h0 h1;obtain⟨g',e1,e2,e3⟩:=over_spec K (home s k)
 obtain rfl:g'=g:=by omega
 obtain⟨q,w1,w2,w3,w4,w5,w6⟩:=win_of K hg hx;have hr:=many_room K hg (e3 g' (Nat.le_refl _) hg);obtain⟨a,ha⟩:∃ a:Nat,(a:Int)=lo c g' (home s k):=⟨(lo c g' (home s k)).toNat,by omega⟩;obtain⟨b,hb⟩:∃ b:Nat,(b:Int)=hi c g' (home s k):=⟨(hi c g' (home s k)).toNat,by omega⟩;obtain⟨q1,q2⟩:=home_cnt O.may h0 h1 w6 w3 w4 w5;have hsp:=cnt_add s (a:=0) (b:=lo c g' (home s k)) (d:=hi c g' (home s k)) (by omega) w6 (by omega)
 have nH:¬ over c s (home s k)=c.high s.keys.length:=by rw [e1,K.high];omega
 have oc:=of_cnt s a b;rw [ha,hb] at oc;refine⟨a,b,(k-cnt s 0 (a:Int)).toNat,ha.symm,hb.symm,by rw [ha];omega,by rw [ha];omega,by omega,by omega,?_⟩;unfold addS;rw [if_neg nH,e1,show (g':Int)-1+1=g' from by omega,<-ha,<-hb,Int.toNat_natCast,Int.toNat_natCast]
end Gp
theorem r9AddedIn (c:Cf) (s:Sl) (a:Ads) (H:Nat) (k p1 p2:Int) (g:Nat) (w:World) (h:Held w s a) (hok:s.Ok) (hs:s.Short) (O:Gp.Own c s H) (h0:0<=k) (hk:k<=Gp.many s) (i1:In64 p1) (i2:In64 p2) (hg:g<=H) (ht:Gp.over c s (Gp.home s k)=(g:Int)-1) :
  Calls Tryz.prog 36 #[cfv c,slv s a,.int .i64 k,.agg #[.int .i64 p1,.int .i64 p2]] w (SPost (Gp.addS c s k (p1,p2)) w):=by
 obtain⟨x0,y0,jj,E1,E2,E3,hjL,hro,hy,V0⟩:=Gp.added_in O h0 hk (p1,p2) hg ht;rw [V0];have l2:=hs.keys;have hx:=Gp.home_in O.may h0 hk;have HI:=O.cap.high;have g1:=O.cap.fit.g1;have g2:=O.may.seg2;rw [O.seg] at g2;have h14:=O.cap.fit.h14
 have sz:c.seg<=(s.keys.length:Int):=by
  have e:=O.cap.wide_le (Nat.zero_le H)
  have:c.wide ((0:Nat):Int)=c.seg:=by show c.seg*2^0=_;simp
  omega
 have FT:=may_fit (may_iff.2 O.may) hok hs;have ll:=Ly.among_length (s.of x0 y0) jj (p1,p2);have A64:In64P (Ly.among (s.of x0 y0) jj (p1,p2)):=Ly.among_in64 (of_in64 hok x0 y0) jj i1 i2
 have hnL:(s.of x0 y0).length<=65536:=by omega
 have CM0:=aq (fun W (hb:Below w.heap.size w W)=>r9Home s a k W (h.below hb) hok hs O.may h0 hk);have CO0:=aq (fun W (hb:Below w.heap.size w W)=>r9over c s a H (Gp.home s k) W (h.below hb) hs O.may O.cap O.seg hx);have CH:=aq (fun W=>r5Height c s.keys.length W g1 sz (by omega));rw [ht] at CO0;rw [HI] at CH;have CF:=aq (fun W (hb:Below w.heap.size w W)=>r4Of s a x0 y0 W (h.below hb) hok hs O.may.vals hy (by have:=O.may.wlen;omega) (by omega))
 have CI:=aq (show ∀ W,Calls Tryz.prog 84 #[.int .i64 c.seg,.int .i64 (g:Int),.int .i64 (Gp.home s k:Int)] W fun e w'=>e=.returned (.tuple #[.int .i64 (x0:Int),.int .i64 (y0:Int)])/\W=w' from fun W=>by
  rw [<-E1,<-E2]
  exact r6Of c.seg g (Gp.home s k) W g1 g2 (by omega) (by omega) (by omega) (by omega))
 have CN:=aq (show ∀ W,Below w.heap.size w W->Calls Tryz.prog 78 #[slv s a,.int .i64 0,.int .i64 (x0:Int)] W fun e w'=>e=.returned (.int .i64 (Gp.cnt s 0 x0))/\Below W.heap.size W w' from fun W hb=>by
  obtain⟨q,q0,q1,q2⟩:=Gp.win_low O.cap hg hx;obtain⟨e1,e2,e3⟩:=Gp.win_segs O.cap O.may O.seg hg q0;have e4:q*2^g<=(q+1)*2^g:=Nat.mul_le_mul_right _ (by omega)
  exact r9Among s a 0 (q*2^g) 0 x0 W (h.below hb) hs O.may (Nat.zero_le _) (by omega) (by simp) (by rw [<-E1,q1];exact e2))
 obtain⟨L,hL⟩:∃ L,L=s.of x0 y0:=⟨_,rfl⟩;rw [<-hL] at hjL hro ll A64 hnL CF ⊢;obtain⟨M,hM⟩:∃ M,M=Ly.among L jj (p1,p2):=⟨_,rfl⟩;rw [<-hM] at ll A64 ⊢;obtain⟨t,ht2⟩:∃ t,t=Ly.spreadS s x0 y0 M:=⟨_,rfl⟩
 have CS:=aq (show ∀ W A6 d6,Below w.heap.size w W->PLst W A6 M->Calls Tryz.prog 85 #[slv s a,.int .i64 (x0:Int),.int .i64 (y0:Int),.slice A6 M.length d6] W (SPost t W) from fun W A6 d6 hb hp=>by
  rw [ht2]
  exact r8Spread s a x0 y0 A6 d6 M W (h.below hb) FT hy (by omega) hp A64)
 rw [<-ht2];have yk:In64 k:=⟨by omega,by have:=Gp.cnt_le s (a:=0) (b:=(s.keys.length:Int)) (by omega) (by omega);have e:Gp.many s=Gp.cnt s 0 s.keys.length:=rfl;omega⟩;obtain⟨x,hxx⟩:∃ x,Gp.home s k=x:=⟨_,rfl⟩;rw [hxx] at CM0 CO0 CI;obtain⟨N,hN⟩:∃ N,Gp.cnt s 0 (x0:Int)=N:=⟨_,rfl⟩;rw [hN] at CN E3
 have nb:(jj:Int)<=65536:=by omega
 have gb:(g:Int)<=65536:=by omega
 have xb:(x0:Int)<=65536/\(y0:Int)<=65536:=by omega
 have jb:jj<=65536:=by omega
 have y1:IntKind.i64.wrap ((g:Int)-1+1)=(g:Int):=by rw [show (g:Int)-1+1=(g:Int) from by omega];exact IntWalk.i64_in _ (by omega)
 have y2:IntKind.i64.wrap (k-N)=(jj:Int):=by rw [E3];exact IntWalk.i64_in _ (by omega)
 have k1:((g:Int)-1==(H:Int))=false:=by simp;omega
 have HM:=aq hM;obtain⟨W1,hW1⟩:∃ W1,W1=((w.alloc (.cells (cfCells c) 32)).alloc (.cells #[.int .i64 s.seg,.slice a.w s.words.length a.cw,.slice a.k s.keys.length a.ck,.slice a.v s.vals.length a.cv,.slice a.c s.counts.length a.cc,.int .u64 (s.laid:Int)] 27)).alloc (.cells #[.int .i64 p1,.int .i64 p2] 36):=⟨_,rfl⟩;have BB:=aq (show Below w.heap.size w W1 by rw [hW1];exact (((Below.refl w.heap.size w).alloc (Nat.le_refl _) _).alloc (by simp) _).alloc (by simp;omega) _);have BC:=aq (show CBox W1 w.heap.size c by rw [hW1];exact ((CBox.new w c 32).below ((Below.refl _ _).alloc (Nat.le_refl _) _)).below ((Below.refl _ _).alloc (Nat.le_refl _) _));have BX:=aq (show Box W1 (w.heap.size+1) s a by rw [hW1];exact (Box.second w _ s a 27).below ((Below.refl _ _).alloc (Nat.le_refl _) _))
 have BP:=aq (show PBox W1 (w.heap.size+1+1) (p1,p2) by
  rw [hW1];have q:=PBox.new ((w.alloc (.cells (cfCells c) 32)).alloc (.cells #[.int .i64 s.seg,.slice a.w s.words.length a.cw,.slice a.k s.keys.length a.ck,.slice a.v s.vals.length a.cv,.slice a.c s.counts.length a.cc,.int .u64 (s.laid:Int)] 27)) (p1,p2) 36
  simp only [World.size_alloc] at q
  exact q)
 have zz:W1.heap.size=w.heap.size+1+1+1:=by rw [hW1];simp
 have ZZ:=aq zz;obtain⟨W0,hW0⟩:∃ W0,W0=W1.alloc (.cells #[.int .i64 0,.slice none 0 0,.slice none 0 0,.slice none 0 0,.slice none 0 0,.int .u64 0] 27):=⟨_,rfl⟩;have BR:=aq (show Box W0 (w.heap.size+1+1+1) Sl.none adsNone by rw [<-zz,hW0];exact Box.new W1 Sl.none adsNone 27);have BW:=aq (show Below W1.heap.size W1 W0 by rw [hW0];exact (Below.refl _ _).alloc (Nat.le_refl _) _);have HB0:=aq (Below.refl W0.heap.size W0);clear h hok hs O h0 hk i1 i2 hg ht E1 E2 E3 hro hy V0 l2 hx HI g1 g2 h14 sz FT ll A64 hL hM ht2 yk hxx hN zz;unfold slv cfv;unfold slv at CM0 CO0 CF CN CS;unfold cfv at CO0 CH
 go_enter Tryz.func36,Tryz.ntmps36
 unfold cfCells at hW1
 go_upto_region 1 with (fail)
 rw [<-hW1,<-hW0];clear hW1 hW0;obtain⟨_,c0,c1,c2,c3,c4,c5,c6,c7,c8,_⟩:=(BC.out.below BW.out).below HB0.out;obtain⟨_,q0,q1,q2,q3,q4,q5,_⟩:=(BX.out.below BW.out).below HB0.out
 go_wp2_with fail
 refine (CM0.out _ (BB.out.trans ((BW.out.trans (HB0.out.mono BW.out.size)).mono BB.out.size))).mono ?_;rintro e w1 ⟨rfl,hb⟩;have HB1:=aq (HB0.out.trans (hb.mono HB0.out.size));clear hb c0 c1 c2 c3 c4 c5 c6 c7 c8 q0 q1 q2 q3 q4 q5;obtain⟨_,c0,c1,c2,c3,c4,c5,c6,c7,c8,_⟩:=(BC.out.below BW.out).below HB1.out;obtain⟨_,q0,q1,q2,q3,q4,q5,_⟩:=(BX.out.below BW.out).below HB1.out
 go_wp2_with fail
 refine (CO0.out _ (BB.out.trans ((BW.out.trans (HB1.out.mono BW.out.size)).mono BB.out.size))).mono ?_;rintro e w2 ⟨rfl,hb⟩;have HB2:=aq (HB1.out.trans (hb.mono HB1.out.size));clear hb c0 c1 c2 c3 c4 c5 c6 c7 c8 q0 q1 q2 q3 q4 q5;obtain⟨_,c0,c1,c2,c3,c4,c5,c6,c7,c8,_⟩:=(BC.out.below BW.out).below HB2.out;obtain⟨_,q0,q1,q2,q3,q4,q5,_⟩:=(BX.out.below BW.out).below HB2.out
 go_wp2_with fail
 refine (CH.out _).mono ?_;rintro e w3 ⟨rfl,hb⟩;have HB3:=aq (HB2.out.trans (hb.mono HB2.out.size));clear hb c0 c1 c2 c3 c4 c5 c6 c7 c8 q0 q1 q2 q3 q4 q5;obtain⟨_,c0,c1,c2,c3,c4,c5,c6,c7,c8,_⟩:=(BC.out.below BW.out).below HB3.out
 go_wp2_with fail
 refine (CI.out _).mono ?_;rintro e w4 ⟨rfl,rfl⟩;clear c0 c1 c2 c3 c4 c5 c6 c7 c8;obtain⟨_,q0,q1,q2,q3,q4,q5,_⟩:=(BX.out.below BW.out).below HB3.out
 go_wp2_with fail
 refine (CN.out _ (BB.out.trans ((BW.out.trans (HB3.out.mono BW.out.size)).mono BB.out.size))).mono ?_;rintro e w5 ⟨rfl,hb⟩;have HB5:=aq (HB3.out.trans (hb.mono HB3.out.size));clear hb q0 q1 q2 q3 q4 q5
 go_upto_region 8 with (fail)
 have q5:=(BW.out.trans (HB5.out.mono BW.out.size)).drew;refine wp_region_held_drew (S:=(fun w'=>(w'.cell? ⟨w.heap.size,0,none⟩=some (.int .u8 c.tag)/\w'.cell? ⟨w.heap.size,1,none⟩=some (.int .i64 c.most)/\w'.cell? ⟨w.heap.size,2,none⟩=some (.int .i64 c.seg)/\w'.cell? ⟨w.heap.size,3,none⟩=some (.int .i64 c.least)/\w'.cell? ⟨w.heap.size,4,none⟩=some (.int .i64 c.den)/\w'.cell? ⟨w.heap.size,5,none⟩=some (.int .i64 c.ll)/\w'.cell? ⟨w.heap.size,6,none⟩=some (.int .i64 c.rl)/\w'.cell? ⟨w.heap.size,7,none⟩=some (.int .i64 c.rh)/\w'.cell? ⟨w.heap.size,8,none⟩=some (.int .i64 c.lh)/\w'.cell? ⟨w.heap.size+1,0,none⟩=some (.int .i64 s.seg)/\w'.cell? ⟨w.heap.size+1,1,none⟩=some (.slice a.w s.words.length a.cw)/\w'.cell? ⟨w.heap.size+1,2,none⟩=some (.slice a.k s.keys.length a.ck)/\w'.cell? ⟨w.heap.size+1,3,none⟩=some (.slice a.v s.vals.length a.cv)/\w'.cell? ⟨w.heap.size+1,4,none⟩=some (.slice a.c s.counts.length a.cc)/\w'.cell? ⟨w.heap.size+1,5,none⟩=some (.int .u64 (s.laid:Int))/\w'.cell? ⟨w.heap.size+1+1,0,none⟩=some (.int .i64 p1)/\w'.cell? ⟨w.heap.size+1+1,1,none⟩=some (.int .i64 p2))/\Hid (Below W1.heap.size W1 w'))) (by kernel_rfl) (⟨boxes3r (BC.out.below (q5)) (BX.out.below (q5)) (BP.out.below (q5)),aq (q5)⟩) (fun hHeld=>?_);refine tk 0 ?_;refine tk 1 ?_;refine tk 2 ?_;refine tk 3 ?_;refine tk 4 ?_;refine tk 5 ?_;refine tk 7 ?_;refine tk 8 ?_;refine tk 9 ?_;refine tk 10 ?_
 refine rdH 6 fun K hK=>?_;go_simp;refine (CF.out _ (BB.out.trans (hHeld.2.out.mono BB.out.size))).mono ?_;rintro e w6 ⟨v,rfl,hr6,hb6⟩;obtain⟨A6,d6,rfl,CA⟩:=r8AmongAny L jj (p1,p2) w6 hr6 hjL hnL;unfold pv at CA
 dsimp only at CA
 go_simp;refine hK.out _ _ (by have q:=hHeld.2.out.trans (hb6.mono hHeld.2.out.size);exact⟨boxes3r (BC.out.below q) (BX.out.below q) (BP.out.below q),aq q⟩) (fun hHelda1=>?_);clear hK K hHeld
 try simp only [sZ]
 refine rdH 11 fun K hK=>?_;go_simp;refine (CA _ (Below.refl _ _)).mono ?_;rintro e w7 ⟨A7,d7,rfl,hp7,hb7⟩;rw [<-HM.out] at hp7
 try rw [<-HM.out]
 clear CA hr6;go_simp;refine hK.out _ _ (by have q:=hHelda1.2.out.trans (hb7.mono hHelda1.2.out.size);exact⟨boxes3r (BC.out.below q) (BX.out.below q) (BP.out.below q),aq q⟩) (fun hHelda2=>?_);clear hK K hHelda1
 try simp only [sZ]
 refine rdH 12 fun K hK=>?_;go_simp;have HB7:=aq (HB5.out.drew.trans ((hb6.trans (hb7.mono hb6.size)).mono HB5.out.drew.size));refine (CS.out _ _ _ (BB.out.trans (hHelda2.2.out.mono BB.out.size)) hp7).mono ?_;rintro e w8 ⟨a8,rfl,own,sep,lies,hb8⟩
 try unfold slv
 go_simp;refine hK.out _ _ (by have q:=hHelda2.2.out.trans (hb8.mono hHelda2.2.out.size);exact⟨boxes3r (BC.out.below q) (BX.out.below q) (BP.out.below q),aq q⟩) (fun hHelda3=>?_);clear hK K hHelda2
 try simp only [sZ]
 refine rdH 13 fun K hK=>?_;obtain⟨_,s0,s1,s2,s3,s4,s5,sf⟩:=(BR.out.below HB7.out).below hb8;have⟨sf0,sf1,sf2,sf3,sf4,sf5⟩:=sf6 sf;go_simp;have FIN:=aq (put6_fin (r:=w.heap.size+1+1+1) own sep lies (BB.out.trans (hHelda3.2.out.mono BB.out.size)) (BR.out.below HB7.out).lt (by omega));have bf:=below_put6 (g:=w.heap.size+1+1+1) hHelda3.2.out (Nat.le_of_eq ZZ.out) (.int .i64 t.seg) (.slice a8.w t.words.length a8.cw) (.slice a8.k t.keys.length a8.ck) (.slice a8.v t.vals.length a8.cv) (.slice a8.c t.counts.length a8.cc) (.int .u64 (t.laid:Int));refine hK.out _ _ (⟨boxes3r (BC.out.below (bf)) (BX.out.below (bf)) (BP.out.below (bf)),aq (bf)⟩) (fun hHelda4=>?_);clear hK K hHelda3
 try simp only [sZ]
 refine wpAnyH_done (by kernel_rfl) ?_ _;clear hHelda4;go_wp2;refine bodyPost_ret (v:=slv t a8) (by simp [results,Tryz.results36,go_sem,slv,s0,s1,s2,s3,s4,s5,sf0,sf1,sf2,sf3,sf4,sf5]) rfl ?_;exact⟨_,rfl,FIN.out _ _ _ _ _ _⟩
theorem r9Added (c:Cf) (s:Sl) (a:Ads) (H:Nat) (k p1 p2:Int) (w:World) (h:Held w s a) (hok:s.Ok) (hs:s.Short) (O:Gp.Own c s H) (h0:0<=k) (hk:k<=Gp.many s) (hne:¬ Gp.many s=c.most) (i1:In64 p1) (i2:In64 p2) :
  Calls Tryz.prog 36 #[cfv c,slv s a,.int .i64 k,.agg #[.int .i64 p1,.int .i64 p2]] w (SPost (Gp.addS c s k (p1,p2)) w):=by
 obtain⟨g,e1,e2,_⟩:=Gp.over_spec O.cap (Gp.home s k)
 by_cases hg:g=H+1
 ·exact r9AddedTop c s a H k p1 p2 w h hok hs O h0 hk hne i1 i2 (by rw [e1,O.cap.high];omega)
 ·exact r9AddedIn c s a H k p1 p2 g w h hok hs O h0 hk i1 i2 (by omega) e1
theorem r9Put (c:Cf) (s:Sl) (a:Ads) (k p1 p2:Int) (w:World) (hc:c.In) (h:Held w s a) (hok:s.Ok) (hs:s.Short) (ik:In64 k) (i1:In64 p1) (i2:In64 p2) :
  Calls Tryz.prog 16 #[cfv c,slv s a,.int .i64 k,.agg #[.int .i64 p1,.int .i64 p2]] w (SPost2 (Gp.putS c s k (p1,p2)) (Gp.putE c s k) w):=by
 obtain⟨W1,hW1⟩:∃ W1,W1=(((w.alloc (.cells (cfCells c) 32)).alloc (.cells #[.int .i64 s.seg,.slice a.w s.words.length a.cw,.slice a.k s.keys.length a.ck,.slice a.v s.vals.length a.cv,.slice a.c s.counts.length a.cc,.int .u64 (s.laid:Int)] 27)).alloc (.cells #[.int .i64 p1,.int .i64 p2] 36)).alloc (.cells #[.int .i64 0,.slice none 0 0,.slice none 0 0,.slice none 0 0,.slice none 0 0,.int .u64 0] 27):=⟨_,rfl⟩;have BB:=aq (show Below w.heap.size w W1 by rw [hW1];exact ((((Below.refl w.heap.size w).alloc (Nat.le_refl _) _).alloc (by simp) _).alloc (by simp;omega) _).alloc (by simp;omega) _);have BC:=aq (show CBox W1 w.heap.size c by rw [hW1];exact (((CBox.new w c 32).below ((Below.refl _ _).alloc (Nat.le_refl _) _)).below ((Below.refl _ _).alloc (Nat.le_refl _) _)).below ((Below.refl _ _).alloc (Nat.le_refl _) _));have BX:=aq (show Box W1 (w.heap.size+1) s a by rw [hW1];exact ((Box.second w _ s a 27).below ((Below.refl _ _).alloc (Nat.le_refl _) _)).below ((Below.refl _ _).alloc (Nat.le_refl _) _))
 have BP:=aq (show PBox W1 (w.heap.size+1+1) (p1,p2) by
  rw [hW1];have q:=(PBox.new ((w.alloc (.cells (cfCells c) 32)).alloc (.cells #[.int .i64 s.seg,.slice a.w s.words.length a.cw,.slice a.k s.keys.length a.ck,.slice a.v s.vals.length a.cv,.slice a.c s.counts.length a.cc,.int .u64 (s.laid:Int)] 27)) (p1,p2) 36).below ((Below.refl _ _).alloc (Nat.le_refl _) (.cells #[.int .i64 0,.slice none 0 0,.slice none 0 0,.slice none 0 0,.slice none 0 0,.int .u64 0] 27))
  simp only [World.size_alloc] at q
  exact q)
 have BR:=aq (show Box W1 (w.heap.size+1+1+1) Sl.none adsNone by
  rw [hW1];have q:=Box.new (((w.alloc (.cells (cfCells c) 32)).alloc (.cells #[.int .i64 s.seg,.slice a.w s.words.length a.cw,.slice a.k s.keys.length a.ck,.slice a.v s.vals.length a.cv,.slice a.c s.counts.length a.cc,.int .u64 (s.laid:Int)] 27)).alloc (.cells #[.int .i64 p1,.int .i64 p2] 36)) Sl.none adsNone 27
  simp only [World.size_alloc] at q
  exact q)
 have zz:w.heap.size+1+1+1+1<=W1.heap.size:=by rw [hW1];simp
 have CC:=aq (fun W (hb:Below w.heap.size w W)=>r9Check c s a W hc (h.below hb) hok hs);have l2:=hs.keys
 by_cases h0:Gp.chkE c s=0
 ·obtain⟨H,K⟩:=Gp.own_of h0
  have CM:=aq (fun W (hb:Below w.heap.size w W)=>r9Many s a W (h.below hb) hs K.may);have mb:0<=Gp.many s/\Gp.many s<=65536:=⟨Gp.cnt_nn _ _ _,by have:=Gp.many_le (s:=s);omega⟩;rw [h0] at CC
  by_cases h1:k < 0
  ·have E:=aq (show Gp.putE c s k=2 by unfold Gp.putE;rw [if_pos h0,if_neg (by omega)])
   have V:=aq (show Gp.putS c s k (p1,p2)=Sl.none by unfold Gp.putS;rw [if_neg (by rw [E.out];decide)]);rw [E.out,V.out]
   have k1:decide (k < 0)=true:=by simp [h1]
   clear K hc h hok hs ik i1 i2 E V h0 CM h1;unfold slv cfv;unfold slv cfv at CC
   go_enter Tryz.func16,Tryz.ntmps16
   unfold cfCells at hW1
   go_upto_region 1 with (fail)
   rw [<-hW1];clear hW1;obtain⟨_,c0,c1,c2,c3,c4,c5,c6,c7,c8,_⟩:=BC.out;obtain⟨_,q0,q1,q2,q3,q4,q5,_⟩:=BX.out;obtain⟨_,p0,p1',_⟩:=BP.out
   go_wp2_with fail
   refine (CC.out _ BB.out).mono ?_;rintro e w1 ⟨rfl,hb⟩;clear c0 c1 c2 c3 c4 c5 c6 c7 c8 q0 q1 q2 q3 q4 q5 p0 p1';replace BC:=aq (BC.out.below hb);replace BX:=aq (BX.out.below hb);replace BP:=aq (BP.out.below hb);replace BR:=aq (BR.out.below hb);replace BB:=aq (BB.out.trans (hb.mono BB.out.size));replace zz:=Nat.le_trans zz hb.size;clear hb;obtain⟨_,c0,c1,c2,c3,c4,c5,c6,c7,c8,_⟩:=BC.out;obtain⟨_,q0,q1,q2,q3,q4,q5,_⟩:=BX.out;obtain⟨_,p0,p1',_⟩:=BP.out;obtain⟨_,s0,s1,s2,s3,s4,s5,sf⟩:=BR.out;have⟨sf0,sf1,sf2,sf3,sf4,sf5⟩:=sf6 sf;clear sf;go_wp2;refine bodyPost_ret (v:=.tuple #[slv Sl.none adsNone,.int .i64 2]) (by simp [results,Tryz.results16,go_sem,slv,Sl.none,adsNone,s0,s1,s2,s3,s4,s5,sf0,sf1,sf2,sf3,sf4,sf5]) rfl ?_;exact⟨_,rfl,(none_own _ _).1,(none_own w 0).2.1,(none_own _ _).2.2,below_put6 BB.out (by omega) _ _ _ _ _ _⟩
  ·have k1:decide (k < 0)=false:=by simp;omega
   by_cases h2:k > Gp.many s
   ·have E:=aq (show Gp.putE c s k=2 by unfold Gp.putE;rw [if_pos h0,if_neg (by omega)])
    have V:=aq (show Gp.putS c s k (p1,p2)=Sl.none by unfold Gp.putS;rw [if_neg (by rw [E.out];decide)]);rw [E.out,V.out];obtain⟨M,hM⟩:∃ M,M=Gp.many s:=⟨_,rfl⟩;rw [<-hM] at CM h2 mb
    have k2:decide (k > M)=true:=by simp;omega
    have k3:decide (M < k)=true:=by simp;omega
    clear K hc h hok hs ik i1 i2 E V h0 h1 h2 hM;unfold slv cfv;unfold slv cfv at CC;unfold slv at CM
    go_enter Tryz.func16,Tryz.ntmps16
    unfold cfCells at hW1
    go_upto_region 1 with (fail)
    rw [<-hW1];clear hW1;obtain⟨_,c0,c1,c2,c3,c4,c5,c6,c7,c8,_⟩:=BC.out;obtain⟨_,q0,q1,q2,q3,q4,q5,_⟩:=BX.out;obtain⟨_,p0,p1',_⟩:=BP.out
    go_wp2_with fail
    refine (CC.out _ BB.out).mono ?_;rintro e w1 ⟨rfl,hb⟩;clear c0 c1 c2 c3 c4 c5 c6 c7 c8 q0 q1 q2 q3 q4 q5 p0 p1';replace BC:=aq (BC.out.below hb);replace BX:=aq (BX.out.below hb);replace BP:=aq (BP.out.below hb);replace BR:=aq (BR.out.below hb);replace BB:=aq (BB.out.trans (hb.mono BB.out.size));replace zz:=Nat.le_trans zz hb.size;clear hb;obtain⟨_,c0,c1,c2,c3,c4,c5,c6,c7,c8,_⟩:=BC.out;obtain⟨_,q0,q1,q2,q3,q4,q5,_⟩:=BX.out;obtain⟨_,p0,p1',_⟩:=BP.out
    go_wp2_with fail
    refine (CM.out _ BB.out).mono ?_;rintro e w2 ⟨rfl,hb⟩;clear c0 c1 c2 c3 c4 c5 c6 c7 c8 q0 q1 q2 q3 q4 q5 p0 p1';replace BC:=aq (BC.out.below hb);replace BX:=aq (BX.out.below hb);replace BP:=aq (BP.out.below hb);replace BR:=aq (BR.out.below hb);replace BB:=aq (BB.out.trans (hb.mono BB.out.size));replace zz:=Nat.le_trans zz hb.size;clear hb;obtain⟨_,c0,c1,c2,c3,c4,c5,c6,c7,c8,_⟩:=BC.out;obtain⟨_,q0,q1,q2,q3,q4,q5,_⟩:=BX.out;obtain⟨_,p0,p1',_⟩:=BP.out;obtain⟨_,s0,s1,s2,s3,s4,s5,sf⟩:=BR.out;have⟨sf0,sf1,sf2,sf3,sf4,sf5⟩:=sf6 sf;clear sf;go_wp2;refine bodyPost_ret (v:=.tuple #[slv Sl.none adsNone,.int .i64 2]) (by simp [results,Tryz.results16,go_sem,slv,Sl.none,adsNone,s0,s1,s2,s3,s4,s5,sf0,sf1,sf2,sf3,sf4,sf5]) rfl ?_;exact⟨_,rfl,(none_own _ _).1,(none_own w 0).2.1,(none_own _ _).2.2,below_put6 BB.out (by omega) _ _ _ _ _ _⟩
   ·have k2:decide (k > Gp.many s)=false:=by simp;omega
    have k3:decide (Gp.many s < k)=false:=by simp;omega
    by_cases h3:Gp.many s=c.most
    ·have E:=aq (show Gp.putE c s k=9 by unfold Gp.putE;rw [if_pos h0,if_pos (by omega),if_pos h3])
     have V:=aq (show Gp.putS c s k (p1,p2)=Sl.none by unfold Gp.putS;rw [if_neg (by rw [E.out];decide)]);rw [E.out,V.out]
     have k4:(Gp.many s==c.most)=true:=by simp [h3]
     obtain⟨M,hM⟩:∃ M,M=Gp.many s:=⟨_,rfl⟩;rw [<-hM] at CM k2 k3 k4 mb;clear K hc h hok hs ik i1 i2 E V h0 h1 h2 h3 hM;unfold slv cfv;unfold slv cfv at CC;unfold slv at CM
     go_enter Tryz.func16,Tryz.ntmps16
     unfold cfCells at hW1
     go_upto_region 1 with (fail)
     rw [<-hW1];clear hW1;obtain⟨_,c0,c1,c2,c3,c4,c5,c6,c7,c8,_⟩:=BC.out;obtain⟨_,q0,q1,q2,q3,q4,q5,_⟩:=BX.out;obtain⟨_,p0,p1',_⟩:=BP.out
     go_wp2_with fail
     refine (CC.out _ BB.out).mono ?_;rintro e w1 ⟨rfl,hb⟩;clear c0 c1 c2 c3 c4 c5 c6 c7 c8 q0 q1 q2 q3 q4 q5 p0 p1';replace BC:=aq (BC.out.below hb);replace BX:=aq (BX.out.below hb);replace BP:=aq (BP.out.below hb);replace BR:=aq (BR.out.below hb);replace BB:=aq (BB.out.trans (hb.mono BB.out.size));replace zz:=Nat.le_trans zz hb.size;clear hb;obtain⟨_,c0,c1,c2,c3,c4,c5,c6,c7,c8,_⟩:=BC.out;obtain⟨_,q0,q1,q2,q3,q4,q5,_⟩:=BX.out;obtain⟨_,p0,p1',_⟩:=BP.out
     go_wp2_with fail
     refine (CM.out _ BB.out).mono ?_;rintro e w2 ⟨rfl,hb⟩;clear c0 c1 c2 c3 c4 c5 c6 c7 c8 q0 q1 q2 q3 q4 q5 p0 p1';replace BC:=aq (BC.out.below hb);replace BX:=aq (BX.out.below hb);replace BP:=aq (BP.out.below hb);replace BR:=aq (BR.out.below hb);replace BB:=aq (BB.out.trans (hb.mono BB.out.size));replace zz:=Nat.le_trans zz hb.size;clear hb
     go_upto_region 6 with (fail)
     have dr:=(Below.refl w2.heap.size w2).drew;refine wp_region_held_drew (S:=(fun w'=>(w'.cell? ⟨w.heap.size,0,none⟩=some (.int .u8 c.tag)/\w'.cell? ⟨w.heap.size,1,none⟩=some (.int .i64 c.most)/\w'.cell? ⟨w.heap.size,2,none⟩=some (.int .i64 c.seg)/\w'.cell? ⟨w.heap.size,3,none⟩=some (.int .i64 c.least)/\w'.cell? ⟨w.heap.size,4,none⟩=some (.int .i64 c.den)/\w'.cell? ⟨w.heap.size,5,none⟩=some (.int .i64 c.ll)/\w'.cell? ⟨w.heap.size,6,none⟩=some (.int .i64 c.rl)/\w'.cell? ⟨w.heap.size,7,none⟩=some (.int .i64 c.rh)/\w'.cell? ⟨w.heap.size,8,none⟩=some (.int .i64 c.lh)/\w'.cell? ⟨w.heap.size+1,0,none⟩=some (.int .i64 s.seg)/\w'.cell? ⟨w.heap.size+1,1,none⟩=some (.slice a.w s.words.length a.cw)/\w'.cell? ⟨w.heap.size+1,2,none⟩=some (.slice a.k s.keys.length a.ck)/\w'.cell? ⟨w.heap.size+1,3,none⟩=some (.slice a.v s.vals.length a.cv)/\w'.cell? ⟨w.heap.size+1,4,none⟩=some (.slice a.c s.counts.length a.cc)/\w'.cell? ⟨w.heap.size+1,5,none⟩=some (.int .u64 (s.laid:Int)))/\Hid (Below w2.heap.size w2 w'))) (by kernel_rfl) (⟨boxes2r (BC.out.below dr) (BX.out.below dr),aq dr⟩) (fun hHeld=>?_);refine tk 0 ?_;refine tk 2 ?_;refine tk 3 ?_;refine rdH 1 fun K hK=>?_;go_simp;refine (CM.out _ (BB.out.trans (hHeld.2.out.mono BB.out.size))).mono ?_;rintro e w3 ⟨rfl,hb3⟩;go_simp;refine hK.out _ _ (by have q:=hHeld.2.out.trans (hb3.mono hHeld.2.out.size);exact⟨boxes2r (BC.out.below q) (BX.out.below q),aq q⟩) (fun hHelda1=>?_)
     clear hK K hHeld
     try simp only [sZ]
     refine tk 4 ?_;refine wpAnyH_done (by kernel_rfl) ?_ _;have q:=hHelda1.2.out;clear hHelda1 dr;replace BC:=aq (BC.out.below q);replace BX:=aq (BX.out.below q);replace BP:=aq (BP.out.below q);replace BR:=aq (BR.out.below q);replace BB:=aq (BB.out.trans (q.mono BB.out.size));replace zz:=Nat.le_trans zz q.size;clear q;obtain⟨_,c0,c1,c2,c3,c4,c5,c6,c7,c8,_⟩:=BC.out;obtain⟨_,q0,q1,q2,q3,q4,q5,_⟩:=BX.out;obtain⟨_,p0,p1',_⟩:=BP.out;obtain⟨_,s0,s1,s2,s3,s4,s5,sf⟩:=BR.out;have⟨sf0,sf1,sf2,sf3,sf4,sf5⟩:=sf6 sf;clear sf;go_wp2;refine bodyPost_ret (v:=.tuple #[slv Sl.none adsNone,.int .i64 9]) (by simp [results,Tryz.results16,go_sem,slv,Sl.none,adsNone,s0,s1,s2,s3,s4,s5,sf0,sf1,sf2,sf3,sf4,sf5]) rfl ?_;exact⟨_,rfl,(none_own _ _).1,(none_own w 0).2.1,(none_own _ _).2.2,below_put6 BB.out (by omega) _ _ _ _ _ _⟩
    ·have E:=aq (show Gp.putE c s k=0 by unfold Gp.putE;rw [if_pos h0,if_pos (by omega),if_neg h3])
     obtain⟨t,ht⟩:∃ t,t=Gp.addS c s k (p1,p2):=⟨_,rfl⟩;have V:=aq (show Gp.putS c s k (p1,p2)=t by unfold Gp.putS;rw [if_pos E.out,ht])
     have CL:=aq (show ∀ W,Below w.heap.size w W->Calls Tryz.prog 36 #[cfv c,slv s a,.int .i64 k,.agg #[.int .i64 p1,.int .i64 p2]] W (SPost t W) from fun W hb=>by
      rw [ht]
      exact r9Added c s a H k p1 p2 W (h.below hb) hok hs K (by omega) (by omega) h3 i1 i2)
     rw [E.out,V.out]
     have k4:(Gp.many s==c.most)=false:=by simp [h3]
     obtain⟨M,hM⟩:∃ M,M=Gp.many s:=⟨_,rfl⟩;rw [<-hM] at CM k2 k3 k4 mb;clear K hc h hok hs ik i1 i2 E V ht h0 h1 h2 h3 hM;unfold slv cfv;unfold slv cfv at CC CL;unfold slv at CM
     go_enter Tryz.func16,Tryz.ntmps16
     unfold cfCells at hW1
     go_upto_region 1 with (fail)
     rw [<-hW1];clear hW1;obtain⟨_,c0,c1,c2,c3,c4,c5,c6,c7,c8,_⟩:=BC.out;obtain⟨_,q0,q1,q2,q3,q4,q5,_⟩:=BX.out;obtain⟨_,p0,p1',_⟩:=BP.out
     go_wp2_with fail
     refine (CC.out _ BB.out).mono ?_;rintro e w1 ⟨rfl,hb⟩;clear c0 c1 c2 c3 c4 c5 c6 c7 c8 q0 q1 q2 q3 q4 q5 p0 p1';replace BC:=aq (BC.out.below hb);replace BX:=aq (BX.out.below hb);replace BP:=aq (BP.out.below hb);replace BR:=aq (BR.out.below hb);replace BB:=aq (BB.out.trans (hb.mono BB.out.size));replace zz:=Nat.le_trans zz hb.size;clear hb;obtain⟨_,c0,c1,c2,c3,c4,c5,c6,c7,c8,_⟩:=BC.out;obtain⟨_,q0,q1,q2,q3,q4,q5,_⟩:=BX.out;obtain⟨_,p0,p1',_⟩:=BP.out
     go_wp2_with fail
     refine (CM.out _ BB.out).mono ?_;rintro e w2 ⟨rfl,hb⟩;clear c0 c1 c2 c3 c4 c5 c6 c7 c8 q0 q1 q2 q3 q4 q5 p0 p1';replace BC:=aq (BC.out.below hb);replace BX:=aq (BX.out.below hb);replace BP:=aq (BP.out.below hb);replace BR:=aq (BR.out.below hb);replace BB:=aq (BB.out.trans (hb.mono BB.out.size));replace zz:=Nat.le_trans zz hb.size;clear hb
     go_upto_region 6 with (fail)
     have dr:=(Below.refl w2.heap.size w2).drew;refine wp_region_held_drew (S:=(fun w'=>(w'.cell? ⟨w.heap.size,0,none⟩=some (.int .u8 c.tag)/\w'.cell? ⟨w.heap.size,1,none⟩=some (.int .i64 c.most)/\w'.cell? ⟨w.heap.size,2,none⟩=some (.int .i64 c.seg)/\w'.cell? ⟨w.heap.size,3,none⟩=some (.int .i64 c.least)/\w'.cell? ⟨w.heap.size,4,none⟩=some (.int .i64 c.den)/\w'.cell? ⟨w.heap.size,5,none⟩=some (.int .i64 c.ll)/\w'.cell? ⟨w.heap.size,6,none⟩=some (.int .i64 c.rl)/\w'.cell? ⟨w.heap.size,7,none⟩=some (.int .i64 c.rh)/\w'.cell? ⟨w.heap.size,8,none⟩=some (.int .i64 c.lh)/\w'.cell? ⟨w.heap.size+1,0,none⟩=some (.int .i64 s.seg)/\w'.cell? ⟨w.heap.size+1,1,none⟩=some (.slice a.w s.words.length a.cw)/\w'.cell? ⟨w.heap.size+1,2,none⟩=some (.slice a.k s.keys.length a.ck)/\w'.cell? ⟨w.heap.size+1,3,none⟩=some (.slice a.v s.vals.length a.cv)/\w'.cell? ⟨w.heap.size+1,4,none⟩=some (.slice a.c s.counts.length a.cc)/\w'.cell? ⟨w.heap.size+1,5,none⟩=some (.int .u64 (s.laid:Int)))/\Hid (Below w2.heap.size w2 w'))) (by kernel_rfl) (⟨boxes2r (BC.out.below dr) (BX.out.below dr),aq dr⟩) (fun hHeld=>?_);refine tk 0 ?_;refine tk 2 ?_;refine tk 3 ?_;refine rdH 1 fun K hK=>?_;go_simp;refine (CM.out _ (BB.out.trans (hHeld.2.out.mono BB.out.size))).mono ?_;rintro e w3 ⟨rfl,hb3⟩;go_simp;refine hK.out _ _ (by have q:=hHeld.2.out.trans (hb3.mono hHeld.2.out.size);exact⟨boxes2r (BC.out.below q) (BX.out.below q),aq q⟩) (fun hHeldb1=>?_)
     clear hK K hHeld
     try simp only [sZ]
     refine tk 4 ?_;refine wpAnyH_done (by kernel_rfl) ?_ _;have q:=hHeldb1.2.out;clear hHeldb1 dr;replace BC:=aq (BC.out.below q);replace BX:=aq (BX.out.below q);replace BP:=aq (BP.out.below q);replace BR:=aq (BR.out.below q);replace BB:=aq (BB.out.trans (q.mono BB.out.size));replace zz:=Nat.le_trans zz q.size;clear q;obtain⟨_,c0,c1,c2,c3,c4,c5,c6,c7,c8,_⟩:=BC.out;obtain⟨_,q0,q1,q2,q3,q4,q5,_⟩:=BX.out;obtain⟨_,p0,p1',_⟩:=BP.out
     go_wp2_with fail
     refine (CL.out _ BB.out).mono ?_;rintro e w4 ⟨a2,rfl,own,sep,lies,hb⟩;obtain⟨_,s0,s1,s2,s3,s4,s5,sf⟩:=BR.out.below hb;have⟨sf0,sf1,sf2,sf3,sf4,sf5⟩:=sf6 sf;have FIN:=aq (put6_fin (r:=w.heap.size+1+1+1) own sep lies (BB.out.trans (hb.mono BB.out.size)) (by have:=hb.size;omega) (by omega));clear own sep lies hb sf c0 c1 c2 c3 c4 c5 c6 c7 c8 q0 q1 q2 q3 q4 q5 p0 p1';unfold slv;go_wp2;refine bodyPost_ret (v:=.tuple #[slv t a2,.int .i64 0]) (by simp [results,Tryz.results16,go_sem,slv,s0,s1,s2,s3,s4,s5,sf0,sf1,sf2,sf3,sf4,sf5]) rfl ?_;exact⟨_,rfl,FIN.out _ _ _ _ _ _⟩
 ·obtain⟨er,her⟩:∃ er,er=Gp.chkE c s:=⟨_,rfl⟩
  rw [<-her] at h0 CC;have E:=aq (show Gp.putE c s k=er by unfold Gp.putE;rw [<-her,if_neg h0]);have V:=aq (show Gp.putS c s k (p1,p2)=Sl.none by unfold Gp.putS;rw [if_neg (by rw [E.out];exact h0)])
  have k1:(er != 0)=true:=by simp [h0]
  rw [E.out,V.out];clear hc h hok hs ik i1 i2 E V her h0;unfold slv cfv;unfold slv cfv at CC
  go_enter Tryz.func16,Tryz.ntmps16
  unfold cfCells at hW1
  go_upto_region 1 with (fail)
  rw [<-hW1];clear hW1;obtain⟨_,c0,c1,c2,c3,c4,c5,c6,c7,c8,_⟩:=BC.out;obtain⟨_,q0,q1,q2,q3,q4,q5,_⟩:=BX.out;obtain⟨_,p0,p1',_⟩:=BP.out
  go_wp2_with fail
  refine (CC.out _ BB.out).mono ?_;rintro e w1 ⟨rfl,hb⟩;clear c0 c1 c2 c3 c4 c5 c6 c7 c8 q0 q1 q2 q3 q4 q5 p0 p1';replace BC:=aq (BC.out.below hb);replace BX:=aq (BX.out.below hb);replace BP:=aq (BP.out.below hb);replace BR:=aq (BR.out.below hb);replace BB:=aq (BB.out.trans (hb.mono BB.out.size));replace zz:=Nat.le_trans zz hb.size;clear hb;obtain⟨_,c0,c1,c2,c3,c4,c5,c6,c7,c8,_⟩:=BC.out;obtain⟨_,q0,q1,q2,q3,q4,q5,_⟩:=BX.out;obtain⟨_,p0,p1',_⟩:=BP.out;obtain⟨_,s0,s1,s2,s3,s4,s5,sf⟩:=BR.out;have⟨sf0,sf1,sf2,sf3,sf4,sf5⟩:=sf6 sf;clear sf;go_wp2;refine bodyPost_ret (v:=.tuple #[slv Sl.none adsNone,.int .i64 er]) (by simp [results,Tryz.results16,go_sem,slv,Sl.none,adsNone,s0,s1,s2,s3,s4,s5,sf0,sf1,sf2,sf3,sf4,sf5]) rfl ?_;exact⟨_,rfl,(none_own _ _).1,(none_own w 0).2.1,(none_own _ _).2.2,below_put6 BB.out (by omega) _ _ _ _ _ _⟩
end Go.Proofs.YthaaapfnheocjaaGreatDoor
