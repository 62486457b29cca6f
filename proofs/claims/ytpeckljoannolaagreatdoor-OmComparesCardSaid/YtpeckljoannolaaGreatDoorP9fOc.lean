/- What package gap's refilled and put return. -/
import Derived.Test.YtpeckljoannolaaGreatDoorP9aOc
import Derived.Test.YtpeckljoannolaaGreatDoorP09Oc
import Derived.Test.YtpeckljoannolaaGreatDoorTkOc
import Derived.Test.YtpeckljoannolaaGreatDoorS9aOc
import Derived.Test.YtpeckljoannolaaGreatDoorP6bOc
set_option linter.unusedVariables false
set_option linter.unusedSimpArgs false
set_option maxHeartbeats 8000000
set_option maxRecDepth 100000
namespace Go.Proofs.YtpeckljoannolaaGreatDoor
open Go.RowKit
namespace Gp
theorem path_of {c:Cf} {n H:Nat} (K:Cap c n H) {x:Nat} (hx:x < n):Wn.askE c.seg n 0 x=0/\Wn.path c.seg n x=(List.range (H+1)).map fun k:Nat=>(lo c k x,hi c k x):=by
 have hb:Wn.askB c.seg n 0 x=true:=by
  unfold Wn.askB Wn.inB;rw [fits_cap K.may K.is,K.fit.hH]
  simp
  omega
 unfold Wn.askE Wn.path;rw [hb,K.fit.hH];exact⟨rfl,by rw [if_pos rfl,Int.toNat_natCast];rfl⟩
theorem path_at (c:Cf) (x H:Nat) {k:Nat} (hk:k<=H):((List.range (H+1)).map fun k:Nat=>(lo c k x,hi c k x)).getD k (0,0)=(lo c k x,hi c k x):=by
 rw [List.getD_eq_getElem?_getD,List.getElem?_map,List.getElem?_range (by omega)]
 rfl
theorem topF_congr {p q:Nat->Bool}:∀ n:Nat,(∀ k,k < n->p k=q k)->topF p n=topF q n
 | 0,_=>rfl
 | n+1,h=>by
  unfold topF;rw [h n (by omega),topF_congr n fun k hk=>h k (by omega)]
theorem win_in {c:Cf} {s:Sl} {H:Nat} (K:Cap c s.keys.length H) (hM:s.May) {x:Nat} (hx:x < s.keys.length) {k:Nat} (hk:k<=H):inV s (lo c k x) (hi c k x)=cnt s (lo c k x) (hi c k x)/\0<=cnt s (lo c k x) (hi c k x)/\cnt s (lo c k x) (hi c k x)<=c.wide k:=by
 obtain⟨q,w1,w2,w3,w4,w5,w6⟩:=win_of K hk hx;have h3:=cnt_le s w6 (show lo c k x<=hi c k x by omega);exact⟨in_cnt hM w6 (by omega) w5,cnt_nn _ _ _,by omega⟩
theorem over_eq {c:Cf} {s:Sl} {H:Nat} (K:Cap c s.keys.length H) (hM:s.May) {x:Nat} (hx:x < s.keys.length) :
  topF (fun k=>(fun (k:Nat) (n:Int)=>manyN c s.keys.length k (n+1)) k (inV s (((List.range (H+1)).map fun k:Nat=>(lo c k x,hi c k x)).getD k (0,0)).1 (((List.range (H+1)).map fun k:Nat=>(lo c k x,hi c k x)).getD k (0,0)).2)) (H+1)=over c s x:=by
 unfold over
 have ht:tall c s=H:=by unfold tall;exact K.tall
 rw [ht];refine topF_congr _ fun k hk=>?_
 dsimp only
 rw [path_at c x H (by omega)];obtain⟨e1,e2,e3⟩:=win_in K hM hx (k:=k) (by omega)
 dsimp only
 rw [e1];unfold manyN overP Cf.fullV
 cases hm:c.manyB s.keys.length k (cnt s (lo c k x) (hi c k x)+1)
 ·rw [Bool.and_false]
 ·have:=many_room K (show k<=H by omega) hm
  rw [K.ok_yes (by omega) (by omega) this]
  rfl
theorem under_eq {c:Cf} {s:Sl} {H:Nat} (K:Cap c s.keys.length H) (hM:s.May) {x:Nat} (hx:x < s.keys.length) :
  topF (fun k=>(fun (k:Nat) (n:Int)=>fewN c s.keys.length k n) k (inV s (((List.range (H+1)).map fun k:Nat=>(lo c k x,hi c k x)).getD k (0,0)).1 (((List.range (H+1)).map fun k:Nat=>(lo c k x,hi c k x)).getD k (0,0)).2)) (H+1)=under c s x:=by
 unfold under
 have ht:tall c s=H:=by unfold tall;exact K.tall
 rw [ht];refine topF_congr _ fun k hk=>?_
 dsimp only
 rw [path_at c x H (by omega)];obtain⟨e1,e2,e3⟩:=win_in K hM hx (k:=k) (by omega)
 dsimp only
 rw [e1];unfold fewN underP;rw [K.ok_yes (by omega) e2 e3]
 rfl
theorem slot_home {s:Sl} (hM:s.May) {k:Int} (h0:0<=k) (h1:k<=many s):slotV s k=home s k:=by
 have hc:=hM.chkW;have m0:0<=many s:=cnt_nn _ _ _
 have hm:many s=((Oc.places s.words 0 s.keys.length).length:Int):=by unfold many;rw [show (0:Int)=((0:Nat):Int) from rfl,cnt_nat]
 unfold slotV home Oc.nthV Oc.nthE;rw [if_pos hc,Int.toNat_natCast]
 by_cases hz:many s=0
 ·rw [if_pos hz,if_pos (Or.inr (by omega))]
  rfl
 ·have h9:¬ (max (k-1) 0 < 0∨((Oc.places s.words 0 s.keys.length).length:Int)<=max (k-1) 0):=by omega
  rw [if_neg hz]
  simp only [if_neg h9]
  unfold place;rw [if_pos trivial,show (max (k-1) 0).toNat=(k-1).toNat from by omega]
theorem into_ok {c:Cf} {s:Sl} (hm:c.May) (hM:s.May) (hsg:s.seg=c.seg) {z:Int} (hz:c.Is z) (ps:List (Int×Int)) (hle:(ps.length:Int)<=z):Ly.intoE s z ps.length=0/\Ly.intoS s z ps=Ly.wide s z ps:=by
 have e:Ly.intoE s z ps.length=0:=by
  unfold Ly.intoE Ly.intoB;rw [may_iff.2 hM,hsg,fits_cap hm hz]
  simp [hle]
 exact⟨e,by unfold Ly.intoS;rw [if_pos e]⟩
theorem with_ok {c:Cf} {s:Sl} {H:Nat} (O:Own c s H) {k:Int} (h0:0<=k) (h1:k<=many s) (p:Int×Int) {g:Nat} (hg:g<=H) (ho:over c s (home s k)=(g:Int)-1) :
  Ly.withE s (lo c g (home s k)) (hi c g (home s k)) (k-cnt s 0 (lo c g (home s k)))=0/\Ly.withS s (lo c g (home s k)) (hi c g (home s k)) (k-cnt s 0 (lo c g (home s k))) p=addS c s k p:=by
 have K:=O.cap;have hx:=home_in O.may h0 h1;obtain⟨g',e1,e2,e3⟩:=over_spec K (home s k)
 obtain rfl:g'=g:=by omega
 obtain⟨q,w1,w2,w3,w4,w5,w6⟩:=win_of K hg hx;have hr:=many_room K hg (e3 g' (Nat.le_refl _) hg);obtain⟨a,ha⟩:∃ a:Nat,(a:Int)=lo c g' (home s k):=⟨(lo c g' (home s k)).toNat,by omega⟩;obtain⟨b,hb⟩:∃ b:Nat,(b:Int)=hi c g' (home s k):=⟨(hi c g' (home s k)).toNat,by omega⟩;obtain⟨q1,q2⟩:=home_cnt O.may h0 h1 w6 w3 w4 w5;have hsp:=cnt_add s (a:=0) (b:=lo c g' (home s k)) (d:=hi c g' (home s k)) (by omega) w6 (by omega)
 have nH:¬ over c s (home s k)=c.high s.keys.length:=by rw [e1,K.high];omega
 have he:Ly.withE s (lo c g' (home s k)) (hi c g' (home s k)) (k-cnt s 0 (lo c g' (home s k)))=0:=by
  unfold Ly.withE;have PM:=Ly.pairs_mk (may_iff.2 O.may) (x:=a) (y:=b) (by omega) (by omega);have oc:=of_cnt s a b;rw [ha,hb] at oc
  have t1:(lo c g' (home s k)).toNat=a:=by omega
  have t2:(hi c g' (home s k)).toNat=b:=by omega
  rw [t1,t2];rw [ha,hb] at PM;rw [if_pos PM.1,if_neg (by omega),if_pos (by omega)]
 refine⟨he,?_⟩;unfold Ly.withS addS;rw [if_pos he,if_neg nH,e1,show (g':Int)-1+1=g' from by omega]
theorem even_ok {s:Sl} (hM:s.May) {a b:Int} (h0:0<=a) (h1:a<=b) (h2:b<=s.keys.length):s.pairsE a b=0/\Ly.evenS s a b=Ly.spreadS s a b (s.of a.toNat b.toNat):=by
 obtain⟨x,rfl⟩:=Int.eq_ofNat_of_zero_le h0;obtain⟨y,rfl⟩:=Int.eq_ofNat_of_zero_le (show 0<=b by omega);have PM:=Ly.pairs_mk (may_iff.2 hM) (x:=x) (y:=y) (by omega) (by omega);exact⟨PM.1,by unfold Ly.evenS;rw [if_pos PM.1]⟩
theorem bare_full {c:Cf} {s:Sl} {H:Nat} (O:Own c s H) {k:Nat} (hk:(k:Int) < many s):many (s.emptied (place s k))=many s-1/\c.manyB s.keys.length (c.high s.keys.length) (many s-1)=true:=by
 have K:=O.cap;have C:=clr_of O.may hk;obtain⟨p1,p2⟩:=place_in hk;have e:=C.off.over (x:=0) (y:=s.keys.length) (by omega) (by omega) (by omega) (by omega);refine⟨?_,?_⟩
 ·unfold many
  rw [C.keys,e,C.none,C.one]
  omega
 ·have R:=right_iff.1 (O.dense H 0 (Nat.le_refl H) (by have:=K.top;simp;omega))
  have hT:=K.top;rw [K.high];refine many_mono K.den K.nn (m:=many s-1) (n:=many s) (by omega) ?_;have r1:=R.1;unfold many;rw [hT] at r1
  simpa using r1
end Gp
end Go.Proofs.YtpeckljoannolaaGreatDoor
namespace Go.Proofs.YtpeckljoannolaaGreatDoor
open Go.RowKit Go.Shelf
theorem arow_some {ps:List (Int×Int)} {base:Nat} {w:World} {v:Value} (h:w.ownsRow base 195 2 v ps.length (pcells ps)) (h0:0 < ps.length):∃ g c,v=.slice (some ⟨g,0,none⟩) ps.length c/\PLst w (some ⟨g,0,none⟩) ps:=by
 obtain⟨A,c,h1,h2,_⟩:=own_cells h
 rcases h.2 with⟨hv,h9⟩ | ⟨g,c',cur,hv,hg,hh,hn,_⟩
 ·omega
 ·rw [hv] at h1
  injection h1 with e1 e2 e3
  subst e1;exact⟨g,c',hv,h2⟩
structure Pth (c:Cf) (n H x:Nat) (ps:List (Int×Int)):Prop where
 len:ps.length=H+1
 is:∀ k:Nat,k<=H->ps.getD k (0,0)=(Gp.lo c k x,Gp.hi c k x)
theorem pth_of {c:Cf} {n H:Nat} (K:Gp.Cap c n H) {x:Nat} (hx:x < n):Wn.askE c.seg n 0 x=0/\Pth c n H x (Wn.path c.seg n x):=by
 obtain⟨h1,h2⟩:=Gp.path_of K hx;refine⟨h1,?_,fun k hk=>?_⟩
 ·rw [h2,List.length_map,List.length_range]
 ·rw [h2];exact Gp.path_at c x H hk
theorem Pth.top {c:Cf} {n H x:Nat} {ps:List (Int×Int)} (P:Pth c n H x ps) (f:Nat->Int->Int->Bool):Gp.topF (fun k=>f k (ps.getD k (0,0)).1 (ps.getD k (0,0)).2) ps.length=Gp.topF (fun k=>f k (((List.range (H+1)).map fun k:Nat=>(Gp.lo c k x,Gp.hi c k x)).getD k (0,0)).1 (((List.range (H+1)).map fun k:Nat=>(Gp.lo c k x,Gp.hi c k x)).getD k (0,0)).2) (H+1):=by
 rw [P.len]
 exact Gp.topF_congr _ fun k hk=>by rw [P.is k (by omega),Gp.path_at c x H (by omega)]
theorem Pth.item {c:Cf} {n H x:Nat} {ps:List (Int×Int)} (P:Pth c n H x ps) {W:World} {b:Nat} (hp:PLst W (some ⟨b,0,none⟩) ps) {k:Nat} (hk:k<=H):W.cell? ⟨b,k*2,none⟩=some (.int .i64 (Gp.lo c k x))/\W.cell? ⟨b,k*2+1,none⟩=some (.int .i64 (Gp.hi c k x)):=by
 obtain⟨b',off',hA,_,hx,hy⟩:=hp.pair (i:=k) (by rw [P.len];omega)
 injection hA with hA
 injection hA with h1 h2
 subst h1 h2;rw [P.is k hk] at hx hy;rw [Nat.zero_add] at hx hy;exact⟨hx,hy⟩
def AnsB (B:Nat) (s:Sl) (er:Int) (w:World) (e:Ending) (w':World):Prop:=∃ a,e=.returned (.tuple #[slv s a,.int .i64 er])/\Own w' B s a/\Below w.heap.size w w'
theorem gRefilled (c:Cf) (s:Sl) (a:Ads) (x B H:Nat) (w:World) (hc:c.In) (own:Own w B s a) (hB:B<=w.heap.size) (hok:s.Ok) (hs:s.Short) (hT:Tab w) (K:Gp.Cap c s.keys.length H) (hM:s.May) (hsg:s.seg=c.seg) (hF:c.manyB s.keys.length (c.high s.keys.length) (Gp.many s)=true) (hx:x < s.keys.length) :
  Calls Tryz.prog 154 #[cfv c,slv s a,.int .i64 (x:Int)] w (AnsB B (Gp.goneS c s x) 0 w):=by
 obtain⟨W0,hW0,BC,BX,BR,BB,zz⟩:=boxes_csr w c s a;have l2:=hs.keys;have h:=own.held;have OW:=aq own;have HH:=aq h;have K14:=K.fit.h14;obtain⟨pe,P⟩:=pth_of K hx
 have CP:=aq (show ∀ W,Calls Tryz.prog 167 #[.int .i64 s.seg,.int .i64 (s.keys.length:Int),.int .i64 (x:Int)] W (WRow (Wn.path c.seg s.keys.length x) 0 W) from fun W=>by
  have q:=vPath s.seg s.keys.length x W hok.seg.2 ⟨by omega,by omega⟩;rw [show Wn.path s.seg s.keys.length x=Wn.path c.seg s.keys.length x by rw [hsg],show Wn.askE s.seg s.keys.length 0 x=0 by rw [hsg];exact pe] at q
  exact q)
 have UE:=Gp.under_eq K hM hx;obtain⟨ps,hps⟩:∃ ps,ps=Wn.path c.seg s.keys.length x:=⟨_,rfl⟩;rw [<-hps] at CP P;have PP:=aq P;have UE2:=(P.top (fun k lo hi=>Gp.fewN c s.keys.length k (Gp.inV s lo hi))).trans UE;have hl:=P.len
 have CH:=aq (fun g d b2 W (hb:Below w.heap.size w W) (hp:PLst W (some ⟨g,0,none⟩) ps) (C:CBox W w.heap.size c) (Z:Boxed W b2 3 (.int .i64 (s.keys.length:Int))) =>
  (gHighTake s a g d ps w.heap.size b2 (fun k n=>Gp.fewN c s.keys.length k n) W (h.below hb) hok hs hp (by omega) (by omega) (fun y n W' _ _ hb'=>gTake1 c s.keys.length w.heap.size b2 y n W' hc (by omega) (C.below hb') (boxed_low Z Z.lt hb'))).mono fun e w' hh=>(show e=.returned (.int .i64 (Gp.under c s x))/\Below W.heap.size W w' from⟨hh.1.trans (congrArg (fun z=>Ending.returned (.int .i64 z)) UE2),hh.2⟩))
 obtain⟨g,e1,e2,e4,e3⟩:=Gp.under_spec K x;obtain⟨u,hu⟩:∃ u,u=Gp.under c s x:=⟨_,rfl⟩;rw [<-hu] at CH e1;have CV:=aq (fun W (hb:Below w.heap.size w W)=>gHalved c s a W hc (h.below hb) hok hs (hT.below hb) K.may (may_iff.2 hM) K.is);have al:=Gp.all_len s
 have CV2:=aq (show ∀ W,Below w.heap.size w W->u=(H:Int)->Calls Tryz.prog 196 #[cfv c,slv s a] W (Ans (Gp.goneS c s x) 0 W) from fun W hb hH=>by
  have q:=CV.out W hb;have SB:=K.may.size_bd K.is;have g4:=K.may.sizes.seg1;have l1:=K.may.sizes.least1;have m0:0<=Gp.many s:=Gp.cnt_nn _ _ _;obtain⟨t1,t2,t3,t4⟩:=Gp.halve_right K.may m0 20 s.keys.length K.is Gp.many_le hF (by rw [show (2:Int)^20=1048576 from by decide];omega);have IK:=Gp.into_ok K.may hM hsg t1 (Gp.all s) (by rw [al];exact t2);rw [al,IK.1,IK.2] at q
  have e9:Gp.goneS c s x=Ly.wide s (Gp.halve c (Gp.many s) 20 s.keys.length) (Gp.all s):=by
   unfold Gp.goneS;rw [<-hu,if_neg (by omega),if_pos (by rw [K.high];exact hH)]
  rw [e9]
  exact q)
 have CE:=aq (fun (lo hi:Int) W (hb:Below w.heap.size w W) (i1:In64 lo) (i2:In64 hi)=>yEven s a lo hi W (h.below hb) hok hs (hT.below hb) i1 i2)
 have CE2:=aq (show ∀ W,Below w.heap.size w W->0 < g->g<=H->Calls Tryz.prog 197 #[slv s a,.int .i64 (Gp.lo c g x),.int .i64 (Gp.hi c g x)] W (Ans (Gp.goneS c s x) 0 W) from fun W hb h0 hg=>by
  obtain⟨q9,w1,w2,w3,w4,w5,w6⟩:=Gp.win_of K hg hx;have q:=CE.out (Gp.lo c g x) (Gp.hi c g x) W hb ⟨by omega,by omega⟩ ⟨by omega,by omega⟩;have EO:=Gp.even_ok hM w6 (show Gp.lo c g x<=Gp.hi c g x by omega) w5;rw [EO.1,EO.2] at q
  have e9:Gp.goneS c s x=Ly.spreadS s (Gp.lo c g x) (Gp.hi c g x) (s.of (Gp.lo c g x).toNat (Gp.hi c g x).toNat):=by
   unfold Gp.goneS;rw [<-hu,if_neg (by omega),if_neg (by rw [K.high];omega),e1,show (g:Int)-1+1=g from by omega]
  rw [e9]
  exact q)
 have E0:=aq (show g=0->Gp.goneS c s x=s from fun h0=>by unfold Gp.goneS;rw [<-hu,if_pos (by omega)])
 have WI:=aq (show g<=H->In64 (Gp.lo c g x)/\In64 (Gp.hi c g x) from fun hg=>by
  obtain⟨q9,w1,w2,w3,w4,w5,w6⟩:=Gp.win_of K hg hx
  exact⟨⟨by omega,by omega⟩,⟨by omega,by omega⟩⟩)
 clear hc h own hok hs hT K hM hsg hF pe P UE UE2 hps e3 e4 hu al CV CE;generalize Gp.goneS c s x=t at *;obtain⟨n,hn⟩:∃ n,ps.length=n:=⟨_,rfl⟩;rw [hn] at hl;have HN:=aq hn;have HL:=aq hl
 have hn0:0 < n:=by omega
 have hn1:n<=20:=by omega
 clear hn hl;unfold slv cfv at CV2;unfold slv at CE2 CH;unfold slv cfv
 go_enter Tryz.func154,Tryz.ntmps154
 go_upto_region 1 with (fail)
 rw [<-hW0];clear hW0;obtain⟨_,q0,q1,q2,q3,q4,q5,_⟩:=BX.out
 go_upto_region 2 with (fail)
 obtain⟨W1,hW1⟩:∃ W1,W1=W0.alloc (.cells #[.int .i64 (s.keys.length:Int)] 3):=⟨_,rfl⟩
 have hb1:Below W0.heap.size W0 W1:=by rw [hW1];exact (Below.refl _ _).alloc (Nat.le_refl _) _
 have ZB:=aq (show Boxed W1 W0.heap.size 3 (.int .i64 (s.keys.length:Int)) by rw [hW1];exact Boxed.new _ _ _);rw [<-hW1];clear hW1 q0 q1 q2 q3 q4 q5;replace BC:=aq (BC.out.below hb1);replace BX:=aq (BX.out.below hb1);replace BR:=aq (BR.out.below hb1);replace BB:=aq (BB.out.trans (hb1.mono BB.out.size));have z1:=hb1.size;clear hb1;obtain⟨_,q0,q1,q2,q3,q4,q5,_⟩:=BX.out;have cz:=ZB.out.cell
 go_wp2_with fail
 refine (CP.out _).mono ?_;rintro e w2 ⟨v,rfl,hr,hb⟩;obtain⟨b,d,rfl,hp⟩:=arow_some hr (by rw [HN.out];exact hn0);rw [HN.out];have P2:=aq hp;have IT:=aq (fun (k:Nat) (hk:k<=H) W (hb:Below w2.heap.size w2 W)=>PP.out.item (hp.below hb) hk);replace BC:=aq (BC.out.below hb);replace BX:=aq (BX.out.below hb);replace BR:=aq (BR.out.below hb);replace ZB:=aq (boxed_low ZB.out ZB.out.lt hb);replace BB:=aq (BB.out.trans (hb.mono BB.out.size));have z2:=hb.size;have CH1:=aq (CH.out b d W0.heap.size w2 BB.out P2.out BC.out ZB.out);rw [HN.out] at CH1;clear hr hp hb q0 q1 q2 q3 q4 q5 cz;obtain⟨_,q0,q1,q2,q3,q4,q5,_⟩:=BX.out
 go_wp2_with fail
 refine CH1.out.mono ?_;rintro e w3 ⟨rfl,hb⟩;replace BC:=aq (BC.out.below hb);replace BX:=aq (BX.out.below hb);replace BR:=aq (BR.out.below hb);replace BB:=aq (BB.out.trans (hb.mono BB.out.size));have HB3:=aq hb;have z3:=hb.size;clear hb q0 q1 q2 q3 q4 q5 CH1;have hL:=HL.out
 by_cases h0:g=0
 ·have hu1:u=-1:=by omega
  have E9:=aq (E0.out h0);subst hu1;clear h0 hL e1;obtain⟨_,q0,q1,q2,q3,q4,q5,_⟩:=BX.out;obtain⟨_,s0,s1,s2,s3,s4,s5,sf⟩:=BR.out;have⟨sf0,sf1,sf2,sf3,sf4,sf5⟩:=sf6 sf;clear sf;have FIN:=aq (fun u0 u1 u2 u3 u4 u5=>below_put6 BB.out (g:=w.heap.size+2) (by omega) u0 u1 u2 u3 u4 u5);go_wp2;refine bodyPost_ret (v:=.tuple #[slv s a,.int .i64 0]) (by simp [results,Tryz.results154,go_sem,slv,s0,s1,s2,s3,s4,s5,sf0,sf1,sf2,sf3,sf4,sf5]) rfl ?_;rw [E9.out];exact⟨_,rfl,OW.out.below (FIN.out _ _ _ _ _ _),FIN.out _ _ _ _ _ _⟩
 ·by_cases hg:g=H+1
  ·have hu1:u=(H:Int):=by omega
   have CV3:=aq (CV2.out w3 BB.out hu1)
   have k1:(u==-1)=false:=by simp;omega
   have k2:(u==(n:Int)-1)=true:=by simp;omega
   clear h0 hL e1 hu1 hg;obtain⟨_,c0,c1,c2,c3,c4,c5,c6,c7,c8,_⟩:=BC.out;obtain⟨_,q0,q1,q2,q3,q4,q5,_⟩:=BX.out
   go_wp2_with fail
   refine CV3.out.mono ?_;rintro e w4 ⟨a3,rfl,own,hb⟩;replace BR:=aq (BR.out.below hb);replace BB:=aq (BB.out.trans (hb.mono BB.out.size));have FIN:=aq (ans_put6 (r:=w.heap.size+2) own BB.out (by omega) (by omega));clear own hb q0 q1 q2 q3 q4 q5 c0 c1 c2 c3 c4 c5 c6 c7 c8;obtain⟨_,s0,s1,s2,s3,s4,s5,sf⟩:=BR.out;have⟨sf0,sf1,sf2,sf3,sf4,sf5⟩:=sf6 sf;clear sf;unfold slv;go_wp2;refine bodyPost_ret (v:=.tuple #[slv t a3,.int .i64 0]) (by simp [results,Tryz.results154,go_sem,slv,s0,s1,s2,s3,s4,s5,sf0,sf1,sf2,sf3,sf4,sf5]) rfl ?_;exact⟨_,rfl,(FIN.out _ _ _ _ _ _).1.lower hB,(FIN.out _ _ _ _ _ _).2⟩
  ·have hgH:g<=H:=by omega
   have k1:(u==-1)=false:=by simp;omega
   have k2:(u==(n:Int)-1)=false:=by simp;omega
   have hw:IntKind.i64.wrap (u+1)=(g:Int):=by rw [IntKind.wrap_i64];omega
   have hgn:g < n:=by omega
   have CE3:=aq (fun W hb=>CE2.out W hb (by omega) hgH);obtain⟨i1,i2⟩:=IT.out g hgH w3 HB3.out;obtain⟨lo,hlo⟩:∃ lo,lo=Gp.lo c g x:=⟨_,rfl⟩;obtain⟨hi,hhi⟩:∃ hi,hi=Gp.hi c g x:=⟨_,rfl⟩;rw [<-hlo,<-hhi] at CE3;rw [<-hlo] at i1;rw [<-hhi] at i2;clear h0 hL e1 hg hgH hlo hhi;obtain⟨_,q0,q1,q2,q3,q4,q5,_⟩:=BX.out
   go_upto_region 12 with (fail)
   obtain⟨W4,hW4⟩:∃ W4,W4=w3.alloc (.cells #[.int .i64 lo,.int .i64 hi] 195):=⟨_,rfl⟩;have AX:=aq (show W4.cell? ⟨w3.heap.size,0,none⟩=some (.int .i64 lo)/\W4.cell? ⟨w3.heap.size,1,none⟩=some (.int .i64 hi) by rw [hW4];exact arr_box w3 lo hi 195)
   have hb4:Below w3.heap.size w3 W4:=by rw [hW4];exact (Below.refl _ _).alloc (Nat.le_refl _) _
   rw [<-hW4];replace BX:=aq (BX.out.below hb4);replace BR:=aq (BR.out.below hb4);replace BB:=aq (BB.out.trans (hb4.mono BB.out.size));have z4:=hb4.size;clear hW4 hb4 q0 q1 q2 q3 q4 q5 i1 i2;obtain⟨_,q0,q1,q2,q3,q4,q5,_⟩:=BX.out;obtain⟨x0,x1⟩:=AX.out
   go_wp2_with fail
   refine (CE3.out _ BB.out).mono ?_;rintro e w4 ⟨a3,rfl,own,hb⟩;replace BR:=aq (BR.out.below hb);replace BB:=aq (BB.out.trans (hb.mono BB.out.size));have FIN:=aq (ans_put6 (r:=w.heap.size+2) own BB.out (by omega) (by omega));clear own hb q0 q1 q2 q3 q4 q5 x0 x1;obtain⟨_,s0,s1,s2,s3,s4,s5,sf⟩:=BR.out;have⟨sf0,sf1,sf2,sf3,sf4,sf5⟩:=sf6 sf;clear sf;unfold slv;go_wp2;refine bodyPost_ret (v:=.tuple #[slv t a3,.int .i64 0]) (by simp [results,Tryz.results154,go_sem,slv,s0,s1,s2,s3,s4,s5,sf0,sf1,sf2,sf3,sf4,sf5]) rfl ?_;exact⟨_,rfl,(FIN.out _ _ _ _ _ _).1.lower hB,(FIN.out _ _ _ _ _ _).2⟩
structure Bx4 (W:World) (n:Nat) (s:Sl) (a:Ads) (p1 p2:Int) (gp:Nat) (lo hi:Int):Prop where
 s:Box W (n+1) s a
 p:PBox W (n+2) (p1,p2)
 l:gp < W.heap.size
 q0:W.cell? ⟨gp,0,none⟩=some (.int .i64 lo)
 q1:W.cell? ⟨gp,1,none⟩=some (.int .i64 hi)
theorem arr_cells {W:World} {gp:Nat} {lo hi:Int} {t:TypeId} (h:W.heap[gp]?=some (.cells #[.int .i64 lo,.int .i64 hi] t)):W.cell? ⟨gp,0,none⟩=some (.int .i64 lo)/\W.cell? ⟨gp,1,none⟩=some (.int .i64 hi)/\∀ o,W.frozen? ⟨gp,o,none⟩=false:=by
 refine⟨?_,?_,fun o=>?_⟩
 ·simp only [World.cell?,h];rfl
 ·simp only [World.cell?,h];rfl
 ·simp [World.frozen?,h]
theorem Bx4.new {W:World} {n gp:Nat} {s:Sl} {a:Ads} {p1 p2 lo hi:Int} {t:TypeId} (hs:Box W (n+1) s a) (hp:PBox W (n+2) (p1,p2)) (h:W.heap[gp]?=some (.cells #[.int .i64 lo,.int .i64 hi] t)):Bx4 W n s a p1 p2 gp lo hi :=
 ⟨hs,hp,(Array.getElem?_eq_some_iff.1 h).1,(arr_cells h).1,(arr_cells h).2.1⟩
theorem Bx4.kept {W W':World} {n gp:Nat} {s:Sl} {a:Ads} {p1 p2 lo hi:Int} (h:Bx4 W n s a p1 p2 gp lo hi) {Z:Nat->Prop} (hk:Kept Z W W') (z1:Z (n+1)) (z2:Z (n+2)) (z3:Z gp):Bx4 W' n s a p1 p2 gp lo hi :=
 have hc:∀ o,W'.cell? ⟨n+2,o,none⟩=W.cell? ⟨n+2,o,none⟩:=fun o=>hk.cell (p:=⟨n+2,o,none⟩) z2;have hf:∀ o,W'.frozen? ⟨n+2,o,none⟩=W.frozen? ⟨n+2,o,none⟩:=fun o=>hk.frozen (p:=⟨n+2,o,none⟩) z2
 ⟨hk.box h.s z1,⟨Nat.lt_of_lt_of_le h.p.lt hk.size,(hc 0).trans h.p.c0,(hc 1).trans h.p.c1,(hf 0).trans h.p.f0,(hf 1).trans h.p.f1⟩,Nat.lt_of_lt_of_le h.l hk.size,(hk.cell (p:=⟨gp,0,none⟩) z3).trans h.q0,(hk.cell (p:=⟨gp,1,none⟩) z3).trans h.q1⟩
theorem Bx4.below {W W':World} {n gp:Nat} {s:Sl} {a:Ads} {p1 p2 lo hi:Int} (h:Bx4 W n s a p1 p2 gp lo hi) (hb:Below W.heap.size W W'):Bx4 W' n s a p1 p2 gp lo hi :=
 h.kept (Z:=fun k=>k < W.heap.size) (Kept.of_below hb (fun k hk=>hk)) h.s.lt h.p.lt h.l
theorem Bx4.turn {W:World} {n gp:Nat} {s:Sl} {a:Ads} {p1 p2 lo hi:Int} (h:Bx4 W n s a p1 p2 gp lo hi) (hg:n+2 < gp) (lo' hi':Int):Bx4 ((W.setCell ⟨gp,0,none⟩ (.int .i64 lo')).setCell ⟨gp,1,none⟩ (.int .i64 hi')) n s a p1 p2 gp lo' hi':=by
 have hk:Kept (fun k=>k≠gp) W ((W.setCell ⟨gp,0,none⟩ (.int .i64 lo')).setCell ⟨gp,1,none⟩ (.int .i64 hi')):=((Kept.refl _ W).setCell (p:=⟨gp,0,none⟩) (fun h=>h rfl) _).setCell (p:=⟨gp,1,none⟩) (fun h=>h rfl) _;have hc:∀ o,((W.setCell ⟨gp,0,none⟩ (.int .i64 lo')).setCell ⟨gp,1,none⟩ (.int .i64 hi')).cell? ⟨n+2,o,none⟩=W.cell? ⟨n+2,o,none⟩:=fun o=>hk.cell (p:=⟨n+2,o,none⟩) (by show n+2≠gp;omega);have hf:∀ o,((W.setCell ⟨gp,0,none⟩ (.int .i64 lo')).setCell ⟨gp,1,none⟩ (.int .i64 hi')).frozen? ⟨n+2,o,none⟩=W.frozen? ⟨n+2,o,none⟩:=fun o=>hk.frozen (p:=⟨n+2,o,none⟩) (by show n+2≠gp;omega);refine⟨hk.box h.s (by show n+1≠gp;omega),⟨Nat.lt_of_lt_of_le h.p.lt hk.size,(hc 0).trans h.p.c0,(hc 1).trans h.p.c1,(hf 0).trans h.p.f0,(hf 1).trans h.p.f1⟩,Nat.lt_of_lt_of_le h.l hk.size,?_,?_⟩
 ·rw [World.cell?_setCell_other _ _ _ _ (by intro e;simp only [Addr.mk.injEq] at e;omega)]
  exact World.cell?_setCell_same' _ _ _ (by rw [h.q0];rfl)
 ·exact World.cell?_setCell_same' _ _ _ (by rw [World.cell?_setCell_other _ _ _ _ (by intro e;simp only [Addr.mk.injEq] at e;omega),h.q1];rfl)
theorem kept_put6 (W:World) (g:Nat) (u0 u1 u2 u3 u4 u5:Value):Kept (fun k=>k≠g) W (put6 W g u0 u1 u2 u3 u4 u5) :=
 ((((((Kept.refl _ W).setCell (p:=⟨g,0,none⟩) (fun h=>h rfl) u0).setCell (p:=⟨g,1,none⟩) (fun h=>h rfl) u1).setCell (p:=⟨g,2,none⟩) (fun h=>h rfl) u2).setCell (p:=⟨g,3,none⟩) (fun h=>h rfl) u3).setCell (p:=⟨g,4,none⟩) (fun h=>h rfl) u4).setCell (p:=⟨g,5,none⟩) (fun h=>h rfl) u5
theorem Bx4.cells {w0 w:World} {s:Sl} {a:Ads} {p1 p2 lo hi:Int} {gp:Nat} (h:Bx4 w0 w.heap.size s a p1 p2 gp lo hi):(w0.cell? ⟨w.heap.size+1,0,none⟩=some (.int .i64 s.seg)/\w0.cell? ⟨w.heap.size+1,1,none⟩=some (.slice a.w s.words.length a.cw)/\w0.cell? ⟨w.heap.size+1,2,none⟩=some (.slice a.k s.keys.length a.ck)/\w0.cell? ⟨w.heap.size+1,3,none⟩=some (.slice a.v s.vals.length a.cv)/\w0.cell? ⟨w.heap.size+1,4,none⟩=some (.slice a.c s.counts.length a.cc)/\w0.cell? ⟨w.heap.size+1,5,none⟩=some (.int .u64 (s.laid:Int)))/\(w0.cell? ⟨w.heap.size+2,0,none⟩=some (.int .i64 p1)/\w0.cell? ⟨w.heap.size+2,1,none⟩=some (.int .i64 p2))/\w0.cell? ⟨gp,0,none⟩=some (.int .i64 lo)/\w0.cell? ⟨gp,1,none⟩=some (.int .i64 hi) :=
 ⟨⟨h.s.c0,h.s.c1,h.s.c2,h.s.c3,h.s.c4,h.s.c5⟩,⟨h.p.c0,h.p.c1⟩,h.q0,h.q1⟩
theorem gPut0 (c:Cf) (s:Sl) (a:Ads) (k:Nat) (p1 p2:Int) (H:Nat) (w:World) (hc:c.In) (h:Held w s a) (hok:s.Ok) (hs:s.Short) (hT:Tab w) (O:Gp.Own c s H) (hk:(k:Int)<=Gp.many s) (hne:¬ Gp.many s=c.most) (i1:In64 p1) (i2:In64 p2) :
  Calls Tryz.prog 119 #[cfv c,slv s a,.int .i64 (k:Int),.agg #[.int .i64 p1,.int .i64 p2]] w (Ans (Gp.addS c s k (p1,p2)) 0 w):=by
 obtain⟨W0,hW0,BC,BX,BP,BR,BB,zz⟩:=boxes_cspr w c s a p1 p2;have l2:=hs.keys;have K:=O.cap;have hM:=O.may;have hsg:=O.seg;have K14:=K.fit.h14;have m1:=Gp.many_le (s:=s)
 have hk0:(0:Int)<=(k:Int):=by omega
 have hx:=Gp.home_in hM hk0 hk;obtain⟨x,hxx⟩:∃ x,x=Gp.home s k:=⟨_,rfl⟩;rw [<-hxx] at hx;have CS:=aq (fun W (hb:Below w.heap.size w W)=>gSlotFor s a k W (h.below hb) hok hs (hT.below hb) hk0 (by omega));rw [Gp.slot_home hM hk0 hk,<-hxx] at CS;obtain⟨pe,P⟩:=pth_of K hx
 have CP:=aq (show ∀ W,Calls Tryz.prog 167 #[.int .i64 s.seg,.int .i64 (s.keys.length:Int),.int .i64 (x:Int)] W (WRow (Wn.path c.seg s.keys.length x) 0 W) from fun W=>by
  have q:=vPath s.seg s.keys.length x W hok.seg.2 ⟨by omega,by omega⟩;rw [show Wn.path s.seg s.keys.length x=Wn.path c.seg s.keys.length x by rw [hsg],show Wn.askE s.seg s.keys.length 0 x=0 by rw [hsg];exact pe] at q
  exact q)
 have OE:=Gp.over_eq K hM hx;obtain⟨ps,hps⟩:∃ ps,ps=Wn.path c.seg s.keys.length x:=⟨_,rfl⟩;rw [<-hps] at CP P;have PP:=aq P;have OE2:=(P.top (fun k lo hi=>Gp.manyN c s.keys.length k (Gp.inV s lo hi+1))).trans OE;have hl:=P.len
 have CH:=aq (fun g d b2 W (hb:Below w.heap.size w W) (hp:PLst W (some ⟨g,0,none⟩) ps) (C:CBox W w.heap.size c) (Z:Boxed W b2 3 (.int .i64 (s.keys.length:Int))) =>
  (gHighPut s a g d ps w.heap.size b2 (fun k n=>Gp.manyN c s.keys.length k (n+1)) W (h.below hb) hok hs hp (by omega) (by omega) (fun y n W' h0 h1 hb'=>gPut1 c s.keys.length w.heap.size b2 y n W' hc (by omega) h0 h1 (C.below hb') (boxed_low Z Z.lt hb'))).mono fun e w' hh=>(show e=.returned (.int .i64 (Gp.over c s x))/\Below W.heap.size W w' from⟨hh.1.trans (congrArg (fun z=>Ending.returned (.int .i64 z)) OE2),hh.2⟩))
 obtain⟨g,e1,e2,e3⟩:=Gp.over_spec K x
 have ho9:∀ g':Nat,Gp.over c s x=(g':Int)-1->g'<=H->Ly.withE s (Gp.lo c g' x) (Gp.hi c g' x) ((k:Int)-Gp.cnt s 0 (Gp.lo c g' x))=0/\Ly.withS s (Gp.lo c g' x) (Gp.hi c g' x) ((k:Int)-Gp.cnt s 0 (Gp.lo c g' x)) (p1,p2)=Gp.addS c s k (p1,p2):=fun g' h1 h2=>by rw [hxx] at h1 ⊢;exact Gp.with_ok O hk0 hk (p1,p2) h2 h1
 obtain⟨o,ho⟩:∃ o,o=Gp.over c s x:=⟨_,rfl⟩;rw [<-ho] at CH e1 ho9;have al:=Gp.all_len s
 have CG9:=aq (show ∀ W,Below w.heap.size w W->o=(H:Int)->Calls Tryz.prog 171 #[cfv c,slv s a,.int .i64 (k:Int),.agg #[.int .i64 p1,.int .i64 p2]] W (Ans (Gp.addS c s k (p1,p2)) 0 W) from fun W hb hH=>by
  have hlt:Gp.many s < c.most:=by have:=O.most;omega
  have q:=gGrown c s a k p1 p2 W hc (h.below hb) hok hs (hT.below hb) ((Cf.may_iff c).2 K.may) (may_iff.2 hM) (by omega) (by omega) i1 i2;have m0:0<=Gp.many s:=Gp.cnt_nn _ _ _;obtain⟨t1,t2,t3,t4⟩:=Gp.takes_right K.may (m:=Gp.many s+1) (by omega) (by omega);have LA:=Ly.among_length (Gp.all s) k (p1,p2)
  have e9:((Ly.among (Gp.all s) k (p1,p2)).length:Int)=Gp.many s+1:=by omega
  have IK:=Gp.into_ok K.may hM hsg t1 (Ly.among (Gp.all s) k (p1,p2)) (by rw [e9];exact t2);rw [e9,IK.1,IK.2] at q
  have e8:Gp.addS c s k (p1,p2)=Ly.wide s (c.takes (Gp.many s+1)) (Ly.among (Gp.all s) k (p1,p2)):=by
   unfold Gp.addS;rw [<-hxx,<-ho,if_pos (by rw [K.high];exact hH),Int.toNat_natCast]
  rw [e8]
  exact q)
 have WI:∀ g',g'<=H->In64 (Gp.lo c g' x)/\In64 (Gp.hi c g' x)/\0<=Gp.lo c g' x/\Gp.lo c g' x<=s.keys.length:=fun g' hg=>by
  obtain⟨q9,w1,w2,w3,w4,w5,w6⟩:=Gp.win_of K hg hx;exact⟨⟨by omega,by omega⟩,⟨by omega,by omega⟩,w6,by omega⟩
 have CB:∀ g',g'<=H->0<=Gp.cnt s 0 (Gp.lo c g' x)/\Gp.cnt s 0 (Gp.lo c g' x)<=65536:=fun g' hg=>by
  obtain⟨_,_,a1,a2⟩:=WI g' hg;have:=Gp.cnt_le s (a:=0) (b:=Gp.lo c g' x) (by omega) a1;have:=Gp.cnt_nn s 0 (Gp.lo c g' x)
  omega
 have CA9:=aq (show g<=H->∀ W,Below w.heap.size w W->Calls Tryz.prog 127 #[slv s a,.int .i64 (Gp.lo c g x)] W (fun e w'=>e=.returned (.int .i64 (Gp.cnt s 0 (Gp.lo c g x)))/\Below W.heap.size W w') from fun hg W hb=>by
  have q:=gAhead s a (Gp.lo c g x) W (h.below hb) hok hs;rw [Gp.in_cnt hM (by omega) (WI g hg).2.2.1 (WI g hg).2.2.2] at q
  exact q)
 have CW9:=aq (show g<=H->∀ W,Below w.heap.size w W->Calls Tryz.prog 172 #[slv s a,.int .i64 (Gp.lo c g x),.int .i64 (Gp.hi c g x),.int .i64 ((k:Int)-Gp.cnt s 0 (Gp.lo c g x)),.agg #[.int .i64 p1,.int .i64 p2]] W (Ans (Gp.addS c s k (p1,p2)) 0 W) from fun hg W hb=>by
  have cb:=CB g hg;have q:=yWith s a (Gp.lo c g x) (Gp.hi c g x) ((k:Int)-Gp.cnt s 0 (Gp.lo c g x)) p1 p2 W (h.below hb) hok hs (hT.below hb) (WI g hg).1 (WI g hg).2.1 ⟨by omega,by omega⟩ i1 i2;have wo:=ho9 g e1 hg;rw [wo.1,wo.2] at q
  exact q)
 have WR:=aq (show g<=H->IntKind.i64.wrap ((k:Int)-Gp.cnt s 0 (Gp.lo c g x))=(k:Int)-Gp.cnt s 0 (Gp.lo c g x) from fun hg=>by have:=CB g hg;rw [IntKind.wrap_i64];omega);obtain⟨lo,hlo⟩:∃ lo,lo=Gp.lo c g x:=⟨_,rfl⟩;obtain⟨hi,hhi⟩:∃ hi,hi=Gp.hi c g x:=⟨_,rfl⟩;obtain⟨lo0,hlo0⟩:∃ lo0,lo0=Gp.lo c (0:Nat) x:=⟨_,rfl⟩;obtain⟨hi0,hhi0⟩:∃ hi0,hi0=Gp.hi c (0:Nat) x:=⟨_,rfl⟩;rw [<-hlo,<-hhi] at CW9;rw [<-hlo] at CA9 WR;have L0:=aq (show g=0->lo=lo0/\hi=hi0 from fun h0=>by rw [hlo,hhi,hlo0,hhi0,h0];exact⟨rfl,rfl⟩);have HLO:=aq hlo;have HHI:=aq hhi;have HLO0:=aq hlo0;have HHI0:=aq hhi0;clear hlo hhi hlo0 hhi0 hc h hok hs hT O K hM hsg pe P OE OE2 hps e3 ho al hk hne i1 i2 hx ho9 WI CB m1 hxx;generalize Gp.addS c s k (p1,p2)=t at *;obtain⟨n,hn⟩:∃ n,ps.length=n:=⟨_,rfl⟩;rw [hn] at hl;have HN:=aq hn;have HL:=aq hl
 have hn0:0 < n:=by omega
 have hn1:n<=20:=by omega
 clear hn hl
 by_cases h0:g=0
 ·have ho:o=-1:=by omega
  subst ho;have CA:=aq (CA9.out (by omega));have CW:=aq (CW9.out (by omega));have hwr:=WR.out (by omega);rw [(L0.out h0).1] at hwr CA CW;rw [(L0.out h0).2] at CW;clear CA9 CW9 CG9 WR e1 h0;unfold slv at CH;unfold slv at CS CW;unfold slv at CA;generalize Gp.cnt s 0 lo0=ah at *;unfold slv cfv
  go_enter Tryz.func119,Tryz.ntmps119
  go_wp2_with fail
  rw [<-hW0];clear hW0;refine wp_scope_on 0 rfl ?_;obtain⟨_,q0,q1,q2,q3,q4,q5,_⟩:=BX.out
  go_upto_region 2 with (fail)
  obtain⟨W1,hW1⟩:∃ W1,W1=W0.alloc (.cells #[.int .i64 (s.keys.length:Int)] 3):=⟨_,rfl⟩
  have hb1:Below W0.heap.size W0 W1:=by rw [hW1];exact (Below.refl _ _).alloc (Nat.le_refl _) _
  have ZB:=aq (show Boxed W1 W0.heap.size 3 (.int .i64 (s.keys.length:Int)) by rw [hW1];exact Boxed.new _ _ _);rw [<-hW1];clear hW1 q0 q1 q2 q3 q4 q5;replace BC:=aq (BC.out.below hb1);replace BX:=aq (BX.out.below hb1);replace BP:=aq (BP.out.below hb1);replace BR:=aq (BR.out.below hb1);replace BB:=aq (BB.out.trans (hb1.mono BB.out.size));have z1:=hb1.size;clear hb1;have dr:=(Below.refl W1.heap.size W1).drew;refine wp_region_held_drew (S:=(fun w'=>((w'.cell? ⟨w.heap.size+1,0,none⟩=some (.int .i64 s.seg)/\w'.cell? ⟨w.heap.size+1,1,none⟩=some (.slice a.w s.words.length a.cw)/\w'.cell? ⟨w.heap.size+1,2,none⟩=some (.slice a.k s.keys.length a.ck)/\w'.cell? ⟨w.heap.size+1,3,none⟩=some (.slice a.v s.vals.length a.cv)/\w'.cell? ⟨w.heap.size+1,4,none⟩=some (.slice a.c s.counts.length a.cc)/\w'.cell? ⟨w.heap.size+1,5,none⟩=some (.int .u64 (s.laid:Int)))/\w'.cell? ⟨W0.heap.size,0,none⟩=some (.int .i64 (s.keys.length:Int)))/\Hid (Below W1.heap.size W1 w'))) (by kernel_rfl) (⟨⟨(BX.out.below dr).cellAt,(boxed_low ZB.out ZB.out.lt dr).cell⟩,aq dr⟩) (fun hHeld=>?_);refine tk 0 ?_;refine tk 1 ?_;refine tk 2 ?_;refine tk 3 ?_;refine tk 4 ?_;refine rdH 5 fun K hK=>?_;go_simp;refine (CS.out _ (BB.out.trans (hHeld.2.out.mono BB.out.size))).mono ?_;rintro e W5 ⟨rfl,hb5⟩;go_simp;refine hK.out _ _ (by have q:=hHeld.2.out.trans (hb5.mono hHeld.2.out.size);exact⟨⟨(BX.out.below q).cellAt,(boxed_low ZB.out ZB.out.lt q).cell⟩,aq q⟩) (fun hHelda1=>?_)
  clear hK K hHeld
  try simp only [sZ]
  refine rdH 6 fun K hK=>?_;go_simp;refine (CP.out _).mono ?_;rintro e W6 ⟨v,rfl,hr6,hb6⟩;obtain⟨b,d,rfl,hp6⟩:=arow_some hr6 (by rw [HN.out];exact hn0);have P6:=aq hp6;rw [HN.out];clear hr6 hp6;go_simp;refine hK.out _ _ (by have q:=hHelda1.2.out.trans (hb6.mono hHelda1.2.out.size);exact⟨⟨(BX.out.below q).cellAt,(boxed_low ZB.out ZB.out.lt q).cell⟩,aq q⟩) (fun hHelda2=>?_);clear hK K hHelda1
  try simp only [sZ]
  refine tk 7 ?_;refine tk 8 ?_;refine tk 9 ?_;refine tk 10 ?_;refine tk 11 ?_;refine wpAnyH_done (by kernel_rfl) ?_ _;have q9:=hHelda2.2.out;clear hHelda2;replace BC:=aq (BC.out.below q9);replace BX:=aq (BX.out.below q9);replace BP:=aq (BP.out.below q9);replace BR:=aq (BR.out.below q9);replace ZB:=aq (boxed_low ZB.out ZB.out.lt q9);replace BB:=aq (BB.out.trans (q9.mono BB.out.size));have z6:=q9.size;have CH1:=aq (CH.out b d W0.heap.size W6 BB.out P6.out BC.out ZB.out);rw [HN.out] at CH1;clear q9;obtain⟨_,q0,q1,q2,q3,q4,q5,_⟩:=BX.out
  go_wp2_with fail
  refine CH1.out.mono ?_;rintro e W7 ⟨rfl,hb⟩;replace BC:=aq (BC.out.below hb);replace BX:=aq (BX.out.below hb);replace BP:=aq (BP.out.below hb);replace BR:=aq (BR.out.below hb);replace BB:=aq (BB.out.trans (hb.mono BB.out.size));have P7:=aq (P6.out.below hb);have z7:=hb.size;clear hb q0 q1 q2 q3 q4 q5 CH1 P6 ZB;obtain⟨i0,i1⟩:=PP.out.item P7.out (Nat.zero_le H);rw [<-HLO0.out] at i0;rw [<-HHI0.out] at i1;rw [Nat.zero_mul] at i0 i1
  go_upto_region 7 with (fail)
  obtain⟨gp,hgp⟩:∃ gp,gp=W7.heap.size:=⟨_,rfl⟩;obtain⟨W8,hW8⟩:∃ W8,W8=W7.alloc (.cells #[.int .i64 lo0,.int .i64 hi0] 195):=⟨_,rfl⟩;have AX:=aq (show W8.heap[gp]?=some (.cells #[.int .i64 lo0,.int .i64 hi0] 195) by rw [hW8,hgp];exact World.alloc_heap_new _ _)
  have hb8:Below W7.heap.size W7 W8:=by rw [hW8];exact (Below.refl _ _).alloc (Nat.le_refl _) _
  rw [<-hW8,<-hgp]
  have hg3:w.heap.size+4<=gp:=by omega
  clear hgp hW8 i0 i1;replace BC:=aq (BC.out.below hb8);replace BX:=aq (BX.out.below hb8);replace BP:=aq (BP.out.below hb8);replace BR:=aq (BR.out.below hb8);replace BB:=aq (BB.out.trans (hb8.mono BB.out.size));replace P7:=aq (P7.out.below hb8);have z8:=hb8.size;clear hb8;have B4:=aq (show Bx4 W8 w.heap.size s a p1 p2 gp lo0 hi0 from Bx4.new BX.out BP.out AX.out);go_wp2
  go_step3
  refine⟨rfl,?_⟩
  go_upto_region 11 with (fail)
  refine wp_region_held_drew (S:=(fun w'=>(w'.cell? ⟨w.heap.size+1,0,none⟩=some (.int .i64 s.seg)/\w'.cell? ⟨w.heap.size+1,1,none⟩=some (.slice a.w s.words.length a.cw)/\w'.cell? ⟨w.heap.size+1,2,none⟩=some (.slice a.k s.keys.length a.ck)/\w'.cell? ⟨w.heap.size+1,3,none⟩=some (.slice a.v s.vals.length a.cv)/\w'.cell? ⟨w.heap.size+1,4,none⟩=some (.slice a.c s.counts.length a.cc)/\w'.cell? ⟨w.heap.size+1,5,none⟩=some (.int .u64 (s.laid:Int)))/\(w'.cell? ⟨w.heap.size+2,0,none⟩=some (.int .i64 p1)/\w'.cell? ⟨w.heap.size+2,1,none⟩=some (.int .i64 p2))/\w'.cell? ⟨gp,0,none⟩=some (.int .i64 lo0)/\w'.cell? ⟨gp,1,none⟩=some (.int .i64 hi0))) (by kernel_rfl) ((B4.out.below (Below.refl W8.heap.size W8).drew).cells) (fun hHeld=>?_);refine tk 0 ?_;refine tk 1 ?_;refine tk 2 ?_;refine tk 3 ?_;refine tk 4 ?_;refine tk 5 ?_;refine tk 6 ?_;refine tk 7 ?_;refine tk 8 ?_;refine tk 11 ?_;refine rdH 9 fun K hK=>?_;go_simp;have dr:=(Below.refl W8.heap.size W8).drew;replace B4:=aq (B4.out.below dr);replace BR:=aq (BR.out.below dr);replace BB:=aq (BB.out.trans (dr.mono BB.out.size));have z8:=dr.size;clear dr;refine (CA.out _ BB.out).mono ?_;rintro e W9 ⟨rfl,hb9⟩;replace B4:=aq (B4.out.below hb9);replace BR:=aq (BR.out.below hb9);replace BB:=aq (BB.out.trans (hb9.mono BB.out.size));have z9:=hb9.size;clear hb9;go_simp;refine hK.out _ _ (B4.out.cells) (fun hHeldb1=>?_)
  clear hK K hHeld
  try simp only [sZ]
  refine tk 10 ?_;refine rdH 12 fun K hK=>?_;go_simp;refine (CW.out W9 BB.out).mono ?_;rintro e W10 ⟨a3,rfl,own,hb⟩;replace B4:=aq (B4.out.below hb);replace BR:=aq (BR.out.below hb);replace BB:=aq (BB.out.trans (hb.mono BB.out.size));have FIN:=aq (ans_put6 (r:=w.heap.size+3) own BB.out (by omega) (by omega));clear own hb;obtain⟨_,s0,s1,s2,s3,s4,s5,sf⟩:=BR.out;have⟨sf0,sf1,sf2,sf3,sf4,sf5⟩:=sf6 sf;clear sf;unfold slv
  try (go_simp)
  refine hK.out _ _ (B4.out.cells) (fun hHeldb2=>?_);clear hK K hHeldb1
  try simp only [sZ]
  refine tk 13 ?_;refine tk 14 ?_;refine rdH 15 fun K hK=>?_;go_simp;skip;refine hK.out _ _ ((B4.out.kept (kept_put6 _ (w.heap.size+3) _ _ _ _ _ _) (by omega) (by omega) (by omega)).cells) (fun hHeldb3=>?_);clear hK K hHeldb2
  try simp only [sZ]
  refine tk 16 ?_;refine wpAnyH_done (by kernel_rfl) ?_ _;go_wp2
  simp only [Exit.jump]
  refine bodyPost_ret (v:=.tuple #[slv t a3,.int .i64 0]) (by simp [results,Tryz.results119,go_sem,slv,s0,s1,s2,s3,s4,s5,sf0,sf1,sf2,sf3,sf4,sf5]) rfl ?_;exact⟨_,rfl,FIN.out _ _ _ _ _ _⟩
 ·by_cases hg:g=H+1
  ·have ho:o=(H:Int):=by omega
   have CG:=aq (fun W hb=>CG9.out W hb ho)
   have k1:(o==-1)=false:=by simp;omega
   have k2:decide (o < (n:Int)-1)=false:=by have:=HL.out;simp;omega
   clear CA9 CW9 CG9 WR e1 h0 hg ho;unfold slv at CH;unfold slv cfv at CG;unfold slv at CS;unfold slv cfv
   go_enter Tryz.func119,Tryz.ntmps119
   go_wp2_with fail
   rw [<-hW0];clear hW0;refine wp_scope_on 0 rfl ?_;obtain⟨_,q0,q1,q2,q3,q4,q5,_⟩:=BX.out
   go_upto_region 2 with (fail)
   obtain⟨W1,hW1⟩:∃ W1,W1=W0.alloc (.cells #[.int .i64 (s.keys.length:Int)] 3):=⟨_,rfl⟩
   have hb1:Below W0.heap.size W0 W1:=by rw [hW1];exact (Below.refl _ _).alloc (Nat.le_refl _) _
   have ZB:=aq (show Boxed W1 W0.heap.size 3 (.int .i64 (s.keys.length:Int)) by rw [hW1];exact Boxed.new _ _ _);rw [<-hW1];clear hW1 q0 q1 q2 q3 q4 q5;replace BC:=aq (BC.out.below hb1);replace BX:=aq (BX.out.below hb1);replace BP:=aq (BP.out.below hb1);replace BR:=aq (BR.out.below hb1);replace BB:=aq (BB.out.trans (hb1.mono BB.out.size));have z1:=hb1.size;clear hb1;have dr:=(Below.refl W1.heap.size W1).drew;refine wp_region_held_drew (S:=(fun w'=>((w'.cell? ⟨w.heap.size+1,0,none⟩=some (.int .i64 s.seg)/\w'.cell? ⟨w.heap.size+1,1,none⟩=some (.slice a.w s.words.length a.cw)/\w'.cell? ⟨w.heap.size+1,2,none⟩=some (.slice a.k s.keys.length a.ck)/\w'.cell? ⟨w.heap.size+1,3,none⟩=some (.slice a.v s.vals.length a.cv)/\w'.cell? ⟨w.heap.size+1,4,none⟩=some (.slice a.c s.counts.length a.cc)/\w'.cell? ⟨w.heap.size+1,5,none⟩=some (.int .u64 (s.laid:Int)))/\w'.cell? ⟨W0.heap.size,0,none⟩=some (.int .i64 (s.keys.length:Int)))/\Hid (Below W1.heap.size W1 w'))) (by kernel_rfl) (⟨⟨(BX.out.below dr).cellAt,(boxed_low ZB.out ZB.out.lt dr).cell⟩,aq dr⟩) (fun hHeld=>?_);refine tk 0 ?_;refine tk 1 ?_;refine tk 2 ?_;refine tk 3 ?_;refine tk 4 ?_;refine rdH 5 fun K hK=>?_;go_simp;refine (CS.out _ (BB.out.trans (hHeld.2.out.mono BB.out.size))).mono ?_;rintro e W5 ⟨rfl,hb5⟩;go_simp;refine hK.out _ _ (by have q:=hHeld.2.out.trans (hb5.mono hHeld.2.out.size);exact⟨⟨(BX.out.below q).cellAt,(boxed_low ZB.out ZB.out.lt q).cell⟩,aq q⟩) (fun hHeldd1=>?_)
   clear hK K hHeld
   try simp only [sZ]
   refine rdH 6 fun K hK=>?_;go_simp;refine (CP.out _).mono ?_;rintro e W6 ⟨v,rfl,hr6,hb6⟩;obtain⟨b,d,rfl,hp6⟩:=arow_some hr6 (by rw [HN.out];exact hn0);have P6:=aq hp6;rw [HN.out];clear hr6 hp6;go_simp;refine hK.out _ _ (by have q:=hHeldd1.2.out.trans (hb6.mono hHeldd1.2.out.size);exact⟨⟨(BX.out.below q).cellAt,(boxed_low ZB.out ZB.out.lt q).cell⟩,aq q⟩) (fun hHeldd2=>?_);clear hK K hHeldd1
   try simp only [sZ]
   refine tk 7 ?_;refine tk 8 ?_;refine tk 9 ?_;refine tk 10 ?_;refine tk 11 ?_;refine wpAnyH_done (by kernel_rfl) ?_ _;have q9:=hHeldd2.2.out;clear hHeldd2;replace BC:=aq (BC.out.below q9);replace BX:=aq (BX.out.below q9);replace BP:=aq (BP.out.below q9);replace BR:=aq (BR.out.below q9);replace ZB:=aq (boxed_low ZB.out ZB.out.lt q9);replace BB:=aq (BB.out.trans (q9.mono BB.out.size));have z6:=q9.size;have CH1:=aq (CH.out b d W0.heap.size W6 BB.out P6.out BC.out ZB.out);rw [HN.out] at CH1;clear q9;obtain⟨_,q0,q1,q2,q3,q4,q5,_⟩:=BX.out
   go_wp2_with fail
   refine CH1.out.mono ?_;rintro e W7 ⟨rfl,hb⟩;replace BC:=aq (BC.out.below hb);replace BX:=aq (BX.out.below hb);replace BP:=aq (BP.out.below hb);replace BR:=aq (BR.out.below hb);replace BB:=aq (BB.out.trans (hb.mono BB.out.size));have P7:=aq (P6.out.below hb);have z7:=hb.size;clear hb q0 q1 q2 q3 q4 q5 CH1 P6 ZB;obtain⟨i0,i1⟩:=PP.out.item P7.out (Nat.zero_le H);rw [<-HLO0.out] at i0;rw [<-HHI0.out] at i1;rw [Nat.zero_mul] at i0 i1
   go_upto_region 7 with (fail)
   obtain⟨gp,hgp⟩:∃ gp,gp=W7.heap.size:=⟨_,rfl⟩;obtain⟨W8,hW8⟩:∃ W8,W8=W7.alloc (.cells #[.int .i64 lo0,.int .i64 hi0] 195):=⟨_,rfl⟩;have AX:=aq (show W8.heap[gp]?=some (.cells #[.int .i64 lo0,.int .i64 hi0] 195) by rw [hW8,hgp];exact World.alloc_heap_new _ _)
   have hb8:Below W7.heap.size W7 W8:=by rw [hW8];exact (Below.refl _ _).alloc (Nat.le_refl _) _
   rw [<-hW8,<-hgp]
   have hg3:w.heap.size+4<=gp:=by omega
   clear hgp hW8 i0 i1;replace BC:=aq (BC.out.below hb8);replace BX:=aq (BX.out.below hb8);replace BP:=aq (BP.out.below hb8);replace BR:=aq (BR.out.below hb8);replace BB:=aq (BB.out.trans (hb8.mono BB.out.size));replace P7:=aq (P7.out.below hb8);have z8:=hb8.size;clear hb8;obtain⟨_,c0,c1,c2,c3,c4,c5,c6,c7,c8,_⟩:=BC.out;obtain⟨_,q0,q1,q2,q3,q4,q5,_⟩:=BX.out;obtain⟨_,r0,r1,_⟩:=BP.out
   go_wp2_with fail
   refine (CG.out W8 BB.out).mono ?_;rintro e W9 ⟨a3,rfl,own,hb⟩;replace BR:=aq (BR.out.below hb);replace BB:=aq (BB.out.trans (hb.mono BB.out.size));have FIN:=aq (ans_put6 (r:=w.heap.size+3) own BB.out (by omega) (by omega));clear own hb q0 q1 q2 q3 q4 q5 c0 c1 c2 c3 c4 c5 c6 c7 c8 r0 r1;obtain⟨_,s0,s1,s2,s3,s4,s5,sf⟩:=BR.out;have⟨sf0,sf1,sf2,sf3,sf4,sf5⟩:=sf6 sf;clear sf;unfold slv;go_wp2
   simp only [Exit.jump]
   refine bodyPost_ret (v:=.tuple #[slv t a3,.int .i64 0]) (by simp [results,Tryz.results119,go_sem,slv,s0,s1,s2,s3,s4,s5,sf0,sf1,sf2,sf3,sf4,sf5]) rfl ?_;exact⟨_,rfl,FIN.out _ _ _ _ _ _⟩
  ·have hgH:g<=H:=by omega
   have k1:(o==-1)=false:=by simp;omega
   have k2:decide (o < (n:Int)-1)=true:=by have:=HL.out;simp;omega
   have hw:IntKind.i64.wrap (o+1)=(g:Int):=by rw [IntKind.wrap_i64];omega
   have hgn:g < n:=by have:=HL.out;omega
   have CA:=aq (CA9.out hgH);have CW:=aq (CW9.out hgH);have hwr:=WR.out hgH;clear CA9 CW9 CG9 WR e1 h0 hg;unfold slv at CH;unfold slv at CS CW;unfold slv at CA;generalize Gp.cnt s 0 lo=ah at *;unfold slv cfv
   go_enter Tryz.func119,Tryz.ntmps119
   go_wp2_with fail
   rw [<-hW0];clear hW0;refine wp_scope_on 1 rfl ?_;obtain⟨_,q0,q1,q2,q3,q4,q5,_⟩:=BX.out
   go_upto_region 2 with (fail)
   obtain⟨W1,hW1⟩:∃ W1,W1=W0.alloc (.cells #[.int .i64 (s.keys.length:Int)] 3):=⟨_,rfl⟩
   have hb1:Below W0.heap.size W0 W1:=by rw [hW1];exact (Below.refl _ _).alloc (Nat.le_refl _) _
   have ZB:=aq (show Boxed W1 W0.heap.size 3 (.int .i64 (s.keys.length:Int)) by rw [hW1];exact Boxed.new _ _ _);rw [<-hW1];clear hW1 q0 q1 q2 q3 q4 q5;replace BC:=aq (BC.out.below hb1);replace BX:=aq (BX.out.below hb1);replace BP:=aq (BP.out.below hb1);replace BR:=aq (BR.out.below hb1);replace BB:=aq (BB.out.trans (hb1.mono BB.out.size));have z1:=hb1.size;clear hb1;have dr:=(Below.refl W1.heap.size W1).drew;refine wp_region_held_drew (S:=(fun w'=>((w'.cell? ⟨w.heap.size+1,0,none⟩=some (.int .i64 s.seg)/\w'.cell? ⟨w.heap.size+1,1,none⟩=some (.slice a.w s.words.length a.cw)/\w'.cell? ⟨w.heap.size+1,2,none⟩=some (.slice a.k s.keys.length a.ck)/\w'.cell? ⟨w.heap.size+1,3,none⟩=some (.slice a.v s.vals.length a.cv)/\w'.cell? ⟨w.heap.size+1,4,none⟩=some (.slice a.c s.counts.length a.cc)/\w'.cell? ⟨w.heap.size+1,5,none⟩=some (.int .u64 (s.laid:Int)))/\w'.cell? ⟨W0.heap.size,0,none⟩=some (.int .i64 (s.keys.length:Int)))/\Hid (Below W1.heap.size W1 w'))) (by kernel_rfl) (⟨⟨(BX.out.below dr).cellAt,(boxed_low ZB.out ZB.out.lt dr).cell⟩,aq dr⟩) (fun hHeld=>?_);refine tk 0 ?_;refine tk 1 ?_;refine tk 2 ?_;refine tk 3 ?_;refine tk 4 ?_;refine rdH 5 fun K hK=>?_;go_simp;refine (CS.out _ (BB.out.trans (hHeld.2.out.mono BB.out.size))).mono ?_;rintro e W5 ⟨rfl,hb5⟩;go_simp;refine hK.out _ _ (by have q:=hHeld.2.out.trans (hb5.mono hHeld.2.out.size);exact⟨⟨(BX.out.below q).cellAt,(boxed_low ZB.out ZB.out.lt q).cell⟩,aq q⟩) (fun hHeldc1=>?_)
   clear hK K hHeld
   try simp only [sZ]
   refine rdH 6 fun K hK=>?_;go_simp;refine (CP.out _).mono ?_;rintro e W6 ⟨v,rfl,hr6,hb6⟩;obtain⟨b,d,rfl,hp6⟩:=arow_some hr6 (by rw [HN.out];exact hn0);have P6:=aq hp6;rw [HN.out];clear hr6 hp6;go_simp;refine hK.out _ _ (by have q:=hHeldc1.2.out.trans (hb6.mono hHeldc1.2.out.size);exact⟨⟨(BX.out.below q).cellAt,(boxed_low ZB.out ZB.out.lt q).cell⟩,aq q⟩) (fun hHeldc2=>?_);clear hK K hHeldc1
   try simp only [sZ]
   refine tk 7 ?_;refine tk 8 ?_;refine tk 9 ?_;refine tk 10 ?_;refine tk 11 ?_;refine wpAnyH_done (by kernel_rfl) ?_ _;have q9:=hHeldc2.2.out;clear hHeldc2;replace BC:=aq (BC.out.below q9);replace BX:=aq (BX.out.below q9);replace BP:=aq (BP.out.below q9);replace BR:=aq (BR.out.below q9);replace ZB:=aq (boxed_low ZB.out ZB.out.lt q9);replace BB:=aq (BB.out.trans (q9.mono BB.out.size));have z6:=q9.size;have CH1:=aq (CH.out b d W0.heap.size W6 BB.out P6.out BC.out ZB.out);rw [HN.out] at CH1;clear q9;obtain⟨_,q0,q1,q2,q3,q4,q5,_⟩:=BX.out
   go_wp2_with fail
   refine CH1.out.mono ?_;rintro e W7 ⟨rfl,hb⟩;replace BC:=aq (BC.out.below hb);replace BX:=aq (BX.out.below hb);replace BP:=aq (BP.out.below hb);replace BR:=aq (BR.out.below hb);replace BB:=aq (BB.out.trans (hb.mono BB.out.size));have P7:=aq (P6.out.below hb);have z7:=hb.size;clear hb q0 q1 q2 q3 q4 q5 CH1 P6 ZB;obtain⟨i0,i1⟩:=PP.out.item P7.out (Nat.zero_le H);rw [<-HLO0.out] at i0;rw [<-HHI0.out] at i1;rw [Nat.zero_mul] at i0 i1
   go_upto_region 7 with (fail)
   obtain⟨gp,hgp⟩:∃ gp,gp=W7.heap.size:=⟨_,rfl⟩;obtain⟨W8,hW8⟩:∃ W8,W8=W7.alloc (.cells #[.int .i64 lo0,.int .i64 hi0] 195):=⟨_,rfl⟩;have AX:=aq (show W8.heap[gp]?=some (.cells #[.int .i64 lo0,.int .i64 hi0] 195) by rw [hW8,hgp];exact World.alloc_heap_new _ _)
   have hb8:Below W7.heap.size W7 W8:=by rw [hW8];exact (Below.refl _ _).alloc (Nat.le_refl _) _
   rw [<-hW8,<-hgp]
   have hg3:w.heap.size+4<=gp:=by omega
   clear hgp hW8 i0 i1;replace BC:=aq (BC.out.below hb8);replace BX:=aq (BX.out.below hb8);replace BP:=aq (BP.out.below hb8);replace BR:=aq (BR.out.below hb8);replace BB:=aq (BB.out.trans (hb8.mono BB.out.size));replace P7:=aq (P7.out.below hb8);have z8:=hb8.size;clear hb8;obtain⟨j0,j1⟩:=PP.out.item P7.out hgH;rw [<-HLO.out] at j0;rw [<-HHI.out] at j1;go_wp2
   go_step3
   refine⟨rfl,?_⟩;have gc0:=(arr_cells AX.out).1;have gc1:=(arr_cells AX.out).2.1;have gf:=(arr_cells AX.out).2.2;have gf0:=gf 0;have gf1:=gf 1;clear gf
   go_wp2_with fail
   go_step3
   obtain⟨W9,hW9⟩:∃ W9,W9=(W8.setCell ⟨gp,0,none⟩ (.int .i64 lo)).setCell ⟨gp,1,none⟩ (.int .i64 hi):=⟨_,rfl⟩;have B4:=aq (show Bx4 W9 w.heap.size s a p1 p2 gp lo hi by rw [hW9];exact (Bx4.new BX.out BP.out AX.out).turn (by omega) _ _)
   have hb9:Below (w.heap.size+4) W8 W9:=by rw [hW9];exact ((Below.refl (w.heap.size+4) W8).setCell (p:=⟨gp,0,none⟩) hg3 _).setCell (p:=⟨gp,1,none⟩) hg3 _
   rw [<-hW9];replace BR:=aq (Box.low BR.out (by omega) hb9);replace BB:=aq (BB.out.trans (hb9.mono (by omega)));have z99:=hb9.size;clear hW9 hb9 gc0 gc1 gf0 gf1 j0 j1
   go_upto_region 11 with (fail)
   refine wp_region_held_drew (S:=(fun w'=>(w'.cell? ⟨w.heap.size+1,0,none⟩=some (.int .i64 s.seg)/\w'.cell? ⟨w.heap.size+1,1,none⟩=some (.slice a.w s.words.length a.cw)/\w'.cell? ⟨w.heap.size+1,2,none⟩=some (.slice a.k s.keys.length a.ck)/\w'.cell? ⟨w.heap.size+1,3,none⟩=some (.slice a.v s.vals.length a.cv)/\w'.cell? ⟨w.heap.size+1,4,none⟩=some (.slice a.c s.counts.length a.cc)/\w'.cell? ⟨w.heap.size+1,5,none⟩=some (.int .u64 (s.laid:Int)))/\(w'.cell? ⟨w.heap.size+2,0,none⟩=some (.int .i64 p1)/\w'.cell? ⟨w.heap.size+2,1,none⟩=some (.int .i64 p2))/\w'.cell? ⟨gp,0,none⟩=some (.int .i64 lo)/\w'.cell? ⟨gp,1,none⟩=some (.int .i64 hi))) (by kernel_rfl) ((B4.out.below (Below.refl W9.heap.size W9).drew).cells) (fun hHeld=>?_);refine tk 0 ?_;refine tk 1 ?_;refine tk 2 ?_;refine tk 3 ?_;refine tk 4 ?_;refine tk 5 ?_;refine tk 6 ?_;refine tk 7 ?_;refine tk 8 ?_;refine tk 11 ?_;refine rdH 9 fun K hK=>?_;go_simp;have dr:=(Below.refl W9.heap.size W9).drew;replace B4:=aq (B4.out.below dr);replace BR:=aq (BR.out.below dr);replace BB:=aq (BB.out.trans (dr.mono BB.out.size));have z8:=dr.size;clear dr;refine (CA.out _ BB.out).mono ?_;rintro e W9 ⟨rfl,hb9⟩;replace B4:=aq (B4.out.below hb9);replace BR:=aq (BR.out.below hb9);replace BB:=aq (BB.out.trans (hb9.mono BB.out.size));have z9:=hb9.size;clear hb9;go_simp;refine hK.out _ _ (B4.out.cells) (fun hHelde1=>?_)
   clear hK K hHeld
   try simp only [sZ]
   refine tk 10 ?_;refine rdH 12 fun K hK=>?_;go_simp;refine (CW.out W9 BB.out).mono ?_;rintro e W10 ⟨a3,rfl,own,hb⟩;replace B4:=aq (B4.out.below hb);replace BR:=aq (BR.out.below hb);replace BB:=aq (BB.out.trans (hb.mono BB.out.size));have FIN:=aq (ans_put6 (r:=w.heap.size+3) own BB.out (by omega) (by omega));clear own hb;obtain⟨_,s0,s1,s2,s3,s4,s5,sf⟩:=BR.out;have⟨sf0,sf1,sf2,sf3,sf4,sf5⟩:=sf6 sf;clear sf;unfold slv
   try (go_simp)
   refine hK.out _ _ (B4.out.cells) (fun hHelde2=>?_);clear hK K hHelde1
   try simp only [sZ]
   refine tk 13 ?_;refine tk 14 ?_;refine rdH 15 fun K hK=>?_;go_simp;skip;refine hK.out _ _ ((B4.out.kept (kept_put6 _ (w.heap.size+3) _ _ _ _ _ _) (by omega) (by omega) (by omega)).cells) (fun hHelde3=>?_);clear hK K hHelde2
   try simp only [sZ]
   refine tk 16 ?_;refine wpAnyH_done (by kernel_rfl) ?_ _;go_wp2
   simp only [Exit.jump]
   refine bodyPost_ret (v:=.tuple #[slv t a3,.int .i64 0]) (by simp [results,Tryz.results119,go_sem,slv,s0,s1,s2,s3,s4,s5,sf0,sf1,sf2,sf3,sf4,sf5]) rfl ?_;exact⟨_,rfl,FIN.out _ _ _ _ _ _⟩
end Go.Proofs.YtpeckljoannolaaGreatDoor
