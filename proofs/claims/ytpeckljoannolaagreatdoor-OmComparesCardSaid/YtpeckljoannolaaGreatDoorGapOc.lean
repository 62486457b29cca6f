/- What package gap's Put, Take and Load return: new memory. -/
import Derived.Test.YtpeckljoannolaaGreatDoorP9fOc
import Derived.Test.YtpeckljoannolaaGreatDoorM17Oc
import Derived.Test.YtpeckljoannolaaGreatDoorOccT4Oc
import Derived.Test.YtpeckljoannolaaGreatDoorP09Oc
import Derived.Test.YtpeckljoannolaaGreatDoorTkOc
set_option linter.unusedVariables false
set_option linter.unusedSimpArgs false
set_option maxHeartbeats 4000000
set_option maxRecDepth 100000
namespace Go.Proofs.YtpeckljoannolaaGreatDoor
open Go.RowKit Go.Shelf
theorem gPut (c:Cf) (s:Sl) (a:Ads) (k p1 p2:Int) (w:World) (hc:c.In) (h:Held w s a) (hok:s.Ok) (hs:s.Short) (hT:Tab w) (hk:In64 k) (i1:In64 p1) (i2:In64 p2) :
  Calls Tryz.prog 73 #[cfv c,slv s a,.int .i64 k,.agg #[.int .i64 p1,.int .i64 p2]] w (Ans (Gp.putS c s k (p1,p2)) (Gp.putE c s k) w):=by
 obtain⟨W0,hW0,BC,BX,BP,BR,BB,zz⟩:=boxes_cspr w c s a p1 p2;have CC:=aq (fun W (hb:Below w.heap.size w W)=>gCheck c s a W hc (h.below hb) hok hs (hT.below hb));have CM:=aq (fun W (hb:Below w.heap.size w W)=>gMany s a W (h.below hb) hok hs)
 by_cases h0:Gp.chkE c s=0
 ·obtain⟨H,O⟩:=Gp.own_of h0
  rw [h0] at CC;rw [Gp.many_in O.may] at CM;have ml:=Gp.many_le (s:=s);have m0:0<=Gp.many s:=Gp.cnt_nn _ _ _
  by_cases h1:0<=k/\k<=Gp.many s
  ·obtain⟨m,rfl⟩:=Int.eq_ofNat_of_zero_le h1.1
   by_cases h2:Gp.many s=c.most
   ·have e:Gp.putE c s m=9:=by unfold Gp.putE;rw [if_pos h0,if_pos h1,if_pos h2]
    have V:=aq (And.intro (Gp.put_none (p:=(p1,p2)) (by rw [e];decide)) e)
    have k1:decide ((m:Int) > Gp.many s)=false:=by simp;omega
    have k2:(Gp.many s==c.most)=true:=by simpa using h2
    clear hc h hok hs hT hk i1 i2 h0 O h1 h2 e ml m0;generalize Gp.many s=mm at *;unfold slv cfv at CC;unfold slv at CM;unfold slv cfv
    go_enter Tryz.func73,Tryz.ntmps73
    go_upto_region 1 with (fail)
    rw [<-hW0];clear hW0;obtain⟨_,c0,c1,c2,c3,c4,c5,c6,c7,c8,_⟩:=BC.out;obtain⟨_,q0,q1,q2,q3,q4,q5,_⟩:=BX.out
    go_wp2_with fail
    refine (CC.out _ BB.out).mono ?_;rintro e w1 ⟨rfl,hb⟩;replace BC:=aq (BC.out.below hb);replace BX:=aq (BX.out.below hb);replace BP:=aq (BP.out.below hb);replace BR:=aq (BR.out.below hb);replace BB:=aq (BB.out.trans (hb.mono BB.out.size));have z1:=hb.size;clear hb;clear c0 c1 c2 c3 c4 c5 c6 c7 c8 q0 q1 q2 q3 q4 q5;obtain⟨_,c0,c1,c2,c3,c4,c5,c6,c7,c8,_⟩:=BC.out;obtain⟨_,q0,q1,q2,q3,q4,q5,_⟩:=BX.out
    go_wp2_with fail
    refine (CM.out _ BB.out).mono ?_;rintro e w2 ⟨rfl,hb⟩;replace BC:=aq (BC.out.below hb);replace BR:=aq (BR.out.below hb);replace BB:=aq (BB.out.trans (hb.mono BB.out.size));have z2:=hb.size;clear hb;clear c0 c1 c2 c3 c4 c5 c6 c7 c8 q0 q1 q2 q3 q4 q5;obtain⟨_,c0,c1,c2,c3,c4,c5,c6,c7,c8,_⟩:=BC.out;obtain⟨_,s0,s1,s2,s3,s4,s5,sf⟩:=BR.out;have⟨sf0,sf1,sf2,sf3,sf4,sf5⟩:=sf6 sf;clear sf;go_wp2;refine bodyPost_ret (v:=.tuple #[slv Sl.none adsNone,.int .i64 9]) (by simp [results,Tryz.results73,go_sem,slv,Sl.none,adsNone,s0,s1,s2,s3,s4,s5,sf0,sf1,sf2,sf3,sf4,sf5]) rfl ?_;rw [V.out.1,V.out.2];exact⟨_,rfl,(none_own _ _).1,below_put6 BB.out (by omega) _ _ _ _ _ _⟩
   ·have e:Gp.putE c s m=0:=by unfold Gp.putE;rw [if_pos h0,if_pos h1,if_neg h2]
    have V:=aq (And.intro (Gp.put_s (p:=(p1,p2)) e) e);have CP:=aq (fun W (hb:Below w.heap.size w W)=>gPut0 c s a m p1 p2 H W hc (h.below hb) hok hs (hT.below hb) O h1.2 h2 i1 i2)
    have k1:decide ((m:Int) > Gp.many s)=false:=by simp;omega
    have k2:(Gp.many s==c.most)=false:=by simpa using h2
    clear hc h hok hs hT hk i1 i2 h0 O h1 h2 e ml m0;generalize Gp.many s=mm at *;generalize Gp.addS c s (m:Int) (p1,p2)=t at *;unfold slv cfv at CC CP;unfold slv at CM;unfold slv cfv
    go_enter Tryz.func73,Tryz.ntmps73
    go_upto_region 1 with (fail)
    rw [<-hW0];clear hW0;obtain⟨_,c0,c1,c2,c3,c4,c5,c6,c7,c8,_⟩:=BC.out;obtain⟨_,q0,q1,q2,q3,q4,q5,_⟩:=BX.out
    go_wp2_with fail
    refine (CC.out _ BB.out).mono ?_;rintro e w1 ⟨rfl,hb⟩;replace BC:=aq (BC.out.below hb);replace BX:=aq (BX.out.below hb);replace BP:=aq (BP.out.below hb);replace BR:=aq (BR.out.below hb);replace BB:=aq (BB.out.trans (hb.mono BB.out.size));have z1:=hb.size;clear hb;clear c0 c1 c2 c3 c4 c5 c6 c7 c8 q0 q1 q2 q3 q4 q5;obtain⟨_,c0,c1,c2,c3,c4,c5,c6,c7,c8,_⟩:=BC.out;obtain⟨_,q0,q1,q2,q3,q4,q5,_⟩:=BX.out
    go_wp2_with fail
    refine (CM.out _ BB.out).mono ?_;rintro e w2 ⟨rfl,hb⟩;replace BC:=aq (BC.out.below hb);replace BX:=aq (BX.out.below hb);replace BP:=aq (BP.out.below hb);replace BR:=aq (BR.out.below hb);replace BB:=aq (BB.out.trans (hb.mono BB.out.size));have z2:=hb.size;clear hb;clear c0 c1 c2 c3 c4 c5 c6 c7 c8 q0 q1 q2 q3 q4 q5;obtain⟨_,c0,c1,c2,c3,c4,c5,c6,c7,c8,_⟩:=BC.out;obtain⟨_,q0,q1,q2,q3,q4,q5,_⟩:=BX.out;obtain⟨_,r0,r1,_⟩:=BP.out
    go_wp2_with fail
    refine (CP.out _ BB.out).mono ?_;rintro e w3 ⟨a3,rfl,own,hb⟩;clear c0 c1 c2 c3 c4 c5 c6 c7 c8 q0 q1 q2 q3 q4 q5;clear r0 r1;replace BR:=aq (BR.out.below hb);replace BB:=aq (BB.out.trans (hb.mono BB.out.size));have FIN:=aq (ans_put6 (r:=w.heap.size+3) own BB.out (by omega) (by omega));clear own hb;obtain⟨_,s0,s1,s2,s3,s4,s5,sf⟩:=BR.out;have⟨sf0,sf1,sf2,sf3,sf4,sf5⟩:=sf6 sf;clear sf;unfold slv;go_wp2;refine bodyPost_ret (v:=.tuple #[slv t a3,.int .i64 0]) (by simp [results,Tryz.results73,go_sem,slv,s0,s1,s2,s3,s4,s5,sf0,sf1,sf2,sf3,sf4,sf5]) rfl ?_;rw [V.out.1,V.out.2];exact⟨_,rfl,FIN.out _ _ _ _ _ _⟩
  ·have e:Gp.putE c s k=2:=by unfold Gp.putE;rw [if_pos h0,if_neg h1]
   have V:=aq (And.intro (Gp.put_none (p:=(p1,p2)) (by rw [e];decide)) e)
   by_cases h3:k < 0
   ·clear hc h hok hs hT hk i1 i2 h0 O h1 e ml m0
    have k0:decide (k < 0)=true:=by simpa using h3
    generalize Gp.many s=mm at *;unfold slv cfv at CC;unfold slv at CM;unfold slv cfv
    go_enter Tryz.func73,Tryz.ntmps73
    go_upto_region 1 with (fail)
    rw [<-hW0];clear hW0;obtain⟨_,c0,c1,c2,c3,c4,c5,c6,c7,c8,_⟩:=BC.out;obtain⟨_,q0,q1,q2,q3,q4,q5,_⟩:=BX.out
    go_wp2_with fail
    refine (CC.out _ BB.out).mono ?_;rintro e w1 ⟨rfl,hb⟩;replace BX:=aq (BX.out.below hb);replace BR:=aq (BR.out.below hb);replace BB:=aq (BB.out.trans (hb.mono BB.out.size));have z1:=hb.size;clear hb;clear c0 c1 c2 c3 c4 c5 c6 c7 c8 q0 q1 q2 q3 q4 q5;obtain⟨_,q0,q1,q2,q3,q4,q5,_⟩:=BX.out
    go_wp2_with fail
    refine (CM.out _ BB.out).mono ?_;rintro e w2 ⟨rfl,hb⟩;replace BR:=aq (BR.out.below hb);replace BB:=aq (BB.out.trans (hb.mono BB.out.size));have z2:=hb.size;clear hb q0 q1 q2 q3 q4 q5;obtain⟨_,s0,s1,s2,s3,s4,s5,sf⟩:=BR.out;have⟨sf0,sf1,sf2,sf3,sf4,sf5⟩:=sf6 sf;clear sf;go_wp2;refine bodyPost_ret (v:=.tuple #[slv Sl.none adsNone,.int .i64 2]) (by simp [results,Tryz.results73,go_sem,slv,Sl.none,adsNone,s0,s1,s2,s3,s4,s5,sf0,sf1,sf2,sf3,sf4,sf5]) rfl ?_;rw [V.out.1,V.out.2];exact⟨_,rfl,(none_own _ _).1,below_put6 BB.out (by omega) _ _ _ _ _ _⟩
   ·have k0:decide (k < 0)=false:=by simpa using h3
    have k1:decide (k > Gp.many s)=true:=by simp;omega
    clear hc h hok hs hT hk i1 i2 h0 O h1 e ml m0;generalize Gp.many s=mm at *;unfold slv cfv at CC;unfold slv at CM;unfold slv cfv
    go_enter Tryz.func73,Tryz.ntmps73
    go_upto_region 1 with (fail)
    rw [<-hW0];clear hW0;obtain⟨_,c0,c1,c2,c3,c4,c5,c6,c7,c8,_⟩:=BC.out;obtain⟨_,q0,q1,q2,q3,q4,q5,_⟩:=BX.out
    go_wp2_with fail
    refine (CC.out _ BB.out).mono ?_;rintro e w1 ⟨rfl,hb⟩;replace BX:=aq (BX.out.below hb);replace BR:=aq (BR.out.below hb);replace BB:=aq (BB.out.trans (hb.mono BB.out.size));have z1:=hb.size;clear hb;clear c0 c1 c2 c3 c4 c5 c6 c7 c8 q0 q1 q2 q3 q4 q5;obtain⟨_,q0,q1,q2,q3,q4,q5,_⟩:=BX.out
    go_wp2_with fail
    refine (CM.out _ BB.out).mono ?_;rintro e w2 ⟨rfl,hb⟩;replace BR:=aq (BR.out.below hb);replace BB:=aq (BB.out.trans (hb.mono BB.out.size));have z2:=hb.size;clear hb q0 q1 q2 q3 q4 q5;obtain⟨_,s0,s1,s2,s3,s4,s5,sf⟩:=BR.out;have⟨sf0,sf1,sf2,sf3,sf4,sf5⟩:=sf6 sf;clear sf;go_wp2;refine bodyPost_ret (v:=.tuple #[slv Sl.none adsNone,.int .i64 2]) (by simp [results,Tryz.results73,go_sem,slv,Sl.none,adsNone,s0,s1,s2,s3,s4,s5,sf0,sf1,sf2,sf3,sf4,sf5]) rfl ?_;rw [V.out.1,V.out.2];exact⟨_,rfl,(none_own _ _).1,below_put6 BB.out (by omega) _ _ _ _ _ _⟩
 ·have e:Gp.putE c s k=Gp.chkE c s:=by unfold Gp.putE;rw [if_neg h0]
  have V:=aq (And.intro (Gp.put_none (p:=(p1,p2)) (by rw [e];exact h0)) e);obtain⟨er,her⟩:∃ er,er=Gp.chkE c s:=⟨_,rfl⟩;rw [<-her] at CC V h0
  have k1:(er != 0)=true:=by simp [h0]
  clear hc h hok hs hT hk i1 i2 h0 e her CM;unfold slv cfv at CC;unfold slv cfv
  go_enter Tryz.func73,Tryz.ntmps73
  go_upto_region 1 with (fail)
  rw [<-hW0];clear hW0;obtain⟨_,c0,c1,c2,c3,c4,c5,c6,c7,c8,_⟩:=BC.out;obtain⟨_,q0,q1,q2,q3,q4,q5,_⟩:=BX.out
  go_wp2_with fail
  refine (CC.out _ BB.out).mono ?_;rintro e w1 ⟨rfl,hb⟩;replace BR:=aq (BR.out.below hb);replace BB:=aq (BB.out.trans (hb.mono BB.out.size));have z1:=hb.size;clear hb;clear c0 c1 c2 c3 c4 c5 c6 c7 c8 q0 q1 q2 q3 q4 q5;obtain⟨_,s0,s1,s2,s3,s4,s5,sf⟩:=BR.out;have⟨sf0,sf1,sf2,sf3,sf4,sf5⟩:=sf6 sf;clear sf;go_wp2;refine bodyPost_ret (v:=.tuple #[slv Sl.none adsNone,.int .i64 er]) (by simp [results,Tryz.results73,go_sem,slv,Sl.none,adsNone,s0,s1,s2,s3,s4,s5,sf0,sf1,sf2,sf3,sf4,sf5]) rfl ?_;rw [V.out.1,V.out.2];exact⟨_,rfl,(none_own _ _).1,below_put6 BB.out (by omega) _ _ _ _ _ _⟩
theorem gTake (c:Cf) (s:Sl) (a:Ads) (k:Int) (w:World) (hc:c.In) (h:Held w s a) (hok:s.Ok) (hs:s.Short) (hT:Tab w) (hk:In64 k) :
  Calls Tryz.prog 106 #[cfv c,slv s a,.int .i64 k] w (Ans (Gp.takeS c s k) (Gp.takeE c s k) w):=by
 obtain⟨W0,hW0,BC,BX,BR,BB,zz⟩:=boxes_csr w c s a;have CC:=aq (fun W (hb:Below w.heap.size w W)=>gCheck c s a W hc (h.below hb) hok hs (hT.below hb));have CN:=aq (fun W (hb:Below w.heap.size w W)=>oNth a.w a.cw s.words s.keys.length k W (h.below hb).words hok.words hs.words (hT.below hb) hk.2)
 by_cases h0:Gp.chkE c s=0
 ·obtain⟨H,O⟩:=Gp.own_of h0
  rw [h0] at CC;have hcw:=O.may.chkW
  have hm:Gp.many s=((Oc.places s.words 0 s.keys.length).length:Int):=by unfold Gp.many;rw [show (0:Int)=((0:Nat):Int) from rfl,Gp.cnt_nat]
  by_cases h1:0<=k/\k < Gp.many s
  ·obtain⟨m,rfl⟩:=Int.eq_ofNat_of_zero_le h1.1
   have e:Gp.takeE c s m=0:=by unfold Gp.takeE;rw [if_pos h0,if_pos h1]
   have V:=aq (And.intro (Gp.take_s e) e);rw [Int.toNat_natCast] at V
   have h9:¬ ((m:Int) < 0∨((Oc.places s.words 0 s.keys.length).length:Int)<=(m:Int)):=by omega
   have e1:Oc.nthE s.words s.keys.length m=0:=by unfold Oc.nthE;simp only [if_pos hcw,Int.toNat_natCast,if_neg h9]
   have e2:Oc.nthV s.words s.keys.length m=(Gp.place s m:Int):=by unfold Oc.nthV Gp.place;simp only [if_pos e1,Int.toNat_natCast]
   rw [e1,e2] at CN;obtain⟨p1,p2⟩:=Gp.place_in h1.2;obtain⟨BF1,BF2⟩:=Gp.bare_full O h1.2;have C9:=Gp.clr_of O.may h1.2;obtain⟨x,hx⟩:∃ x,x=Gp.place s m:=⟨_,rfl⟩;rw [<-hx] at CN p1 p2 V BF1 C9
   have e3:s.atE x=0:=by unfold Sl.atE Sl.slotB;rw [may_iff.2 O.may,Int.toNat_natCast,p2];simp [p1]
   have e4:s.clearS x=s.emptied x:=by unfold Sl.clearS;rw [if_pos e3,Int.toNat_natCast]
   have CR:=aq (show ∀ W,Below w.heap.size w W->Calls Tryz.prog 153 #[slv s a,.int .i64 (x:Int)] W (Ans (s.emptied x) 0 W) from fun W hb=>by
    have q:=cClear s a x W (h.below hb) hok hs (hT.below hb);rw [e3,e4] at q
    exact q)
   have FE:=emptied_fine (may_iff.2 O.may) hok hs x;have TT:=aq hT
   have CF:=aq (show ∀ W B a',Below w.heap.size w W->Own W B (s.emptied x) a'->B<=W.heap.size->Calls Tryz.prog 154 #[cfv c,slv (s.emptied x) a',.int .i64 (x:Int)] W (AnsB B (Gp.goneS c (s.emptied x) x) 0 W) from fun W B a' hb own hB=>by
    refine gRefilled c (s.emptied x) a' x B H W hc own hB FE.ok FE.short (TT.out.below hb) ?_ C9.may O.seg ?_ (by rw [C9.keys];exact p1)
    ·rw [C9.keys];exact O.cap
    ·rw [C9.keys,BF1];exact BF2)
   clear hc h hok hs hT hk h0 O h1 e hcw hm h9 e1 e2 p1 p2 BF1 BF2 C9 hx e3 e4 FE TT;generalize Gp.goneS c (s.emptied x) x=t at *;generalize s.emptied x=s2 at *;unfold slv cfv at CC CF;unfold slv at CR;unfold slv cfv
   go_enter Tryz.func106,Tryz.ntmps106
   go_upto_region 1 with (fail)
   rw [<-hW0];clear hW0;obtain⟨_,c0,c1,c2,c3,c4,c5,c6,c7,c8,_⟩:=BC.out;obtain⟨_,q0,q1,q2,q3,q4,q5,_⟩:=BX.out
   go_wp2_with fail
   refine (CC.out _ BB.out).mono ?_;rintro e w1 ⟨rfl,hb⟩;replace BC:=aq (BC.out.below hb);replace BX:=aq (BX.out.below hb);replace BR:=aq (BR.out.below hb);replace BB:=aq (BB.out.trans (hb.mono BB.out.size));have z1:=hb.size;clear hb;clear c0 c1 c2 c3 c4 c5 c6 c7 c8 q0 q1 q2 q3 q4 q5;obtain⟨_,q0,q1,q2,q3,q4,q5,_⟩:=BX.out
   go_wp2_with fail
   refine (CN.out _ BB.out).mono ?_;rintro e w2 ⟨rfl,hb⟩;replace BC:=aq (BC.out.below hb);replace BX:=aq (BX.out.below hb);replace BR:=aq (BR.out.below hb);replace BB:=aq (BB.out.trans (hb.mono BB.out.size));have z2:=hb.size;clear hb q0 q1 q2 q3 q4 q5;obtain⟨_,q0,q1,q2,q3,q4,q5,_⟩:=BX.out
   go_wp2_with fail
   refine (CR.out _ BB.out).mono ?_;rintro e w3 ⟨a2,rfl,own2,hb⟩;replace BC:=aq (BC.out.below hb);replace BR:=aq (BR.out.below hb);replace BB:=aq (BB.out.trans (hb.mono BB.out.size));have z3:=hb.size;have O2:=aq own2;clear hb own2 q0 q1 q2 q3 q4 q5;unfold slv
   go_upto_region 8 with (fail)
   obtain⟨W4,hW4⟩:∃ W4,W4=w3.alloc (.cells #[.int .i64 s2.seg,.slice a2.w s2.words.length a2.cw,.slice a2.k s2.keys.length a2.ck,.slice a2.v s2.vals.length a2.cv,.slice a2.c s2.counts.length a2.cc,.int .u64 (s2.laid:Int)] 29):=⟨_,rfl⟩
   have hb4:Below w3.heap.size w3 W4:=by rw [hW4];exact (Below.refl _ _).alloc (Nat.le_refl _) _
   have B2:=aq (show Box W4 w3.heap.size s2 a2 by rw [hW4];exact Box.new w3 s2 a2 29);rw [<-hW4];replace BC:=aq (BC.out.below hb4);replace BR:=aq (BR.out.below hb4);replace BB:=aq (BB.out.trans (hb4.mono BB.out.size));have z4:=hb4.size;replace O2:=aq (O2.out.below hb4);clear hb4 hW4;obtain⟨_,c0,c1,c2,c3,c4,c5,c6,c7,c8,_⟩:=BC.out;obtain⟨_,q0,q1,q2,q3,q4,q5,_⟩:=B2.out
   go_wp2_with fail
   refine (CF.out _ w2.heap.size a2 BB.out O2.out (by omega)).mono ?_;rintro e w5 ⟨a3,rfl,own,hb⟩;clear c0 c1 c2 c3 c4 c5 c6 c7 c8 q0 q1 q2 q3 q4 q5;replace BR:=aq (BR.out.below hb);replace BB:=aq (BB.out.trans (hb.mono BB.out.size));have FIN:=aq (ans_put6 (r:=w.heap.size+2) own BB.out (by omega) (by omega));clear own hb;obtain⟨_,s0,s1,s2,s3,s4,s5,sf⟩:=BR.out;have⟨sf0,sf1,sf2,sf3,sf4,sf5⟩:=sf6 sf;clear sf;unfold slv;go_wp2;refine bodyPost_ret (v:=.tuple #[slv t a3,.int .i64 0]) (by simp [results,Tryz.results106,go_sem,slv,s0,s1,s2,s3,s4,s5,sf0,sf1,sf2,sf3,sf4,sf5]) rfl ?_;rw [V.out.1,V.out.2];exact⟨_,rfl,FIN.out _ _ _ _ _ _⟩
  ·have e:Gp.takeE c s k=2:=by unfold Gp.takeE;rw [if_pos h0,if_neg h1]
   have V:=aq (And.intro (Gp.take_none (c:=c) (s:=s) (k:=k) (by rw [e];decide)) e)
   have h9:k < 0∨((Oc.places s.words 0 s.keys.length).length:Int)<=k:=by omega
   have e1:Oc.nthE s.words s.keys.length k=6:=by unfold Oc.nthE;simp only [if_pos hcw,Int.toNat_natCast,if_pos h9]
   rw [e1] at CN;clear hc h hok hs hT hk h0 O h1 e hcw hm h9 e1;unfold slv cfv at CC;unfold slv cfv
   go_enter Tryz.func106,Tryz.ntmps106
   go_upto_region 1 with (fail)
   rw [<-hW0];clear hW0;obtain⟨_,c0,c1,c2,c3,c4,c5,c6,c7,c8,_⟩:=BC.out;obtain⟨_,q0,q1,q2,q3,q4,q5,_⟩:=BX.out
   go_wp2_with fail
   refine (CC.out _ BB.out).mono ?_;rintro e w1 ⟨rfl,hb⟩;replace BX:=aq (BX.out.below hb);replace BR:=aq (BR.out.below hb);replace BB:=aq (BB.out.trans (hb.mono BB.out.size));have z1:=hb.size;clear hb;clear c0 c1 c2 c3 c4 c5 c6 c7 c8 q0 q1 q2 q3 q4 q5;obtain⟨_,q0,q1,q2,q3,q4,q5,_⟩:=BX.out
   go_wp2_with fail
   refine (CN.out _ BB.out).mono ?_;rintro e w2 ⟨rfl,hb⟩;replace BR:=aq (BR.out.below hb);replace BB:=aq (BB.out.trans (hb.mono BB.out.size));have z2:=hb.size;clear hb q0 q1 q2 q3 q4 q5;obtain⟨_,s0,s1,s2,s3,s4,s5,sf⟩:=BR.out;have⟨sf0,sf1,sf2,sf3,sf4,sf5⟩:=sf6 sf;clear sf;go_wp2;refine bodyPost_ret (v:=.tuple #[slv Sl.none adsNone,.int .i64 2]) (by simp [results,Tryz.results106,go_sem,slv,Sl.none,adsNone,s0,s1,s2,s3,s4,s5,sf0,sf1,sf2,sf3,sf4,sf5]) rfl ?_;rw [V.out.1,V.out.2];exact⟨_,rfl,(none_own _ _).1,below_put6 BB.out (by omega) _ _ _ _ _ _⟩
 ·have e:Gp.takeE c s k=Gp.chkE c s:=by unfold Gp.takeE;rw [if_neg h0]
  have V:=aq (And.intro (Gp.take_none (c:=c) (s:=s) (k:=k) (by rw [e];exact h0)) e);obtain⟨er,her⟩:∃ er,er=Gp.chkE c s:=⟨_,rfl⟩;rw [<-her] at CC V h0
  have k1:(er != 0)=true:=by simp [h0]
  clear hc h hok hs hT hk h0 e her CN;unfold slv cfv at CC;unfold slv cfv
  go_enter Tryz.func106,Tryz.ntmps106
  go_upto_region 1 with (fail)
  rw [<-hW0];clear hW0;obtain⟨_,c0,c1,c2,c3,c4,c5,c6,c7,c8,_⟩:=BC.out;obtain⟨_,q0,q1,q2,q3,q4,q5,_⟩:=BX.out
  go_wp2_with fail
  refine (CC.out _ BB.out).mono ?_;rintro e w1 ⟨rfl,hb⟩;replace BR:=aq (BR.out.below hb);replace BB:=aq (BB.out.trans (hb.mono BB.out.size));have z1:=hb.size;clear hb;clear c0 c1 c2 c3 c4 c5 c6 c7 c8 q0 q1 q2 q3 q4 q5;obtain⟨_,s0,s1,s2,s3,s4,s5,sf⟩:=BR.out;have⟨sf0,sf1,sf2,sf3,sf4,sf5⟩:=sf6 sf;clear sf;go_wp2;refine bodyPost_ret (v:=.tuple #[slv Sl.none adsNone,.int .i64 er]) (by simp [results,Tryz.results106,go_sem,slv,Sl.none,adsNone,s0,s1,s2,s3,s4,s5,sf0,sf1,sf2,sf3,sf4,sf5]) rfl ?_;rw [V.out.1,V.out.2];exact⟨_,rfl,(none_own _ _).1,below_put6 BB.out (by omega) _ _ _ _ _ _⟩
end Go.Proofs.YtpeckljoannolaaGreatDoor
