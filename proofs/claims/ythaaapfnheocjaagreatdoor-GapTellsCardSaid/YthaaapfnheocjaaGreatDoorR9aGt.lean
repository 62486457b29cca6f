/- What the document's own over, under, AmongW and Added return. -/
import Derived.Test.YthaaapfnheocjaaGreatDoorTkGt
import Derived.Test.YthaaapfnheocjaaGreatDoorP9rGt
import Derived.Test.YthaaapfnheocjaaGreatDoorP5rGt
import Derived.Test.YthaaapfnheocjaaGreatDoorP6aGt
import Derived.Test.YthaaapfnheocjaaGreatDoorM02Gt
import Derived.Test.YthaaapfnheocjaaGreatDoorP09Gt
import Derived.Test.YthaaapfnheocjaaGreatDoorP08Gt
import Derived.Test.YthaaapfnheocjaaGreatDoorM04Gt
set_option linter.unusedVariables false
set_option linter.unusedSimpArgs false
set_option maxHeartbeats 8000000
set_option maxRecDepth 100000
namespace Go.Proofs.YthaaapfnheocjaaGreatDoor
open Go.RowKit
namespace Gp
theorem win_low {c:Cf} {s:Sl} {H:Nat} (K:Cap c s.keys.length H) {h x:Nat} (hh:h<=H) (hx:x < s.keys.length):∃ q:Nat,q < rowN c s h/\lo c h x=(q:Int)*c.wide h/\hi c h x=(q:Int)*c.wide h+c.wide h:=by
 obtain⟨q,q1,q2,q3,q4,q5,q6⟩:=win_of K hh hx;refine⟨q,?_,q1,q2⟩;have f:=(row_fill K hh).1;have w4:=K.wpos h;rw [q2] at q5
 by_cases hq:q < rowN c s h
 ·exact hq
 ·exfalso
  have:=Int.mul_le_mul_of_nonneg_right (show (rowN c s h:Int)<=(q:Int) by omega) (show 0<=c.wide h by omega)
  omega
theorem cnt_win {c:Cf} {s:Sl} {H:Nat} (K:Cap c s.keys.length H) (hm:s.May) (hsg:s.seg=c.seg) {h x:Nat} (hh:h<=H) (hx:x < s.keys.length):0<=cnt s (lo c h x) (hi c h x)/\cnt s (lo c h x) (hi c h x)<=c.wide h/\c.wide h<=65536:=by
 obtain⟨q,_,q1,q2⟩:=win_low K hh hx;have w4:=K.wpos h;have p0:0<=(q:Int)*c.wide h:=Int.mul_nonneg (by omega) (by omega);have:=cnt_le s p0 (show (q:Int)*c.wide h<=(q:Int)*c.wide h+c.wide h by omega);have wl:=K.wide_le hh;have:=hm.many;rw [q1,q2];exact⟨cnt_nn _ _ _,by omega,by omega⟩
end Gp
theorem r9AmongW (c:Cf) (s:Sl) (a:Ads) (H h x:Nat) (w:World) (hd:Held w s a) (hs:s.Short) (hm:s.May) (K:Gp.Cap c s.keys.length H) (hsg:s.seg=c.seg) (hh:h<=H) (hx:x < s.keys.length) :
  Calls Tryz.prog 78 #[slv s a,.int .i64 (Gp.lo c h x),.int .i64 (Gp.hi c h x)] w fun e w'=>e=.returned (.int .i64 (Gp.cnt s (Gp.lo c h x) (Gp.hi c h x)))/\Below w.heap.size w w':=by
 obtain⟨q,q0,q1,q2⟩:=Gp.win_low K hh hx;obtain⟨e1,e2,e3⟩:=Gp.win_segs K hm hsg hh q0;exact r9Among s a (q*2^h) ((q+1)*2^h) _ _ w hd hs hm (Nat.mul_le_mul_right _ (by omega)) e1 (by rw [q1];exact e2) (by rw [q2];exact e3)
theorem r9over (c:Cf) (s:Sl) (a:Ads) (H:Nat) (x:Nat) (w:World) (h:Held w s a) (hs:s.Short) (hm:s.May) (K:Gp.Cap c s.keys.length H) (hsg:s.seg=c.seg) (hx:x < s.keys.length) :
  Calls Tryz.prog 80 #[cfv c,slv s a,.int .i64 (x:Int)] w fun e w'=>e=.returned (.int .i64 (Gp.over c s x))/\Below w.heap.size w w':=by
 have l2:=hs.keys;have g1:=K.fit.g1;have g2:=hm.seg2;rw [hsg] at g2;have h14:=K.fit.h14
 have sz:c.seg<=(s.keys.length:Int):=by
  have e:=K.wide_le (Nat.zero_le H)
  have:c.wide ((0:Nat):Int)=c.seg:=by show c.seg*2^0=_;simp
  omega
 obtain⟨W0,hW0⟩:∃ W0,W0=(w.alloc (.cells (cfCells c) 32)).alloc (.cells #[.int .i64 s.seg,.slice a.w s.words.length a.cw,.slice a.k s.keys.length a.ck,.slice a.v s.vals.length a.cv,.slice a.c s.counts.length a.cc,.int .u64 (s.laid:Int)] 27):=⟨_,rfl⟩;have BB:=aq (show Below w.heap.size w W0 by rw [hW0];exact ((Below.refl w.heap.size w).alloc (Nat.le_refl _) _).alloc (by simp) _);have BC:=aq (show CBox W0 w.heap.size c by rw [hW0];exact (CBox.new w c 32).below ((Below.refl _ _).alloc (Nat.le_refl _) _));have BX:=aq (show Box W0 (w.heap.size+1) s a by rw [hW0];exact Box.second w _ s a 27);have CH:=aq (fun W=>r5Height c s.keys.length W g1 sz (by omega));rw [K.high] at CH;have CO0:=aq (fun (k:Nat) W (hk:k<=H)=>(show Calls Tryz.prog 84 #[.int .i64 c.seg,.int .i64 (k:Int),.int .i64 (x:Int)] W fun e w'=>e=.returned (.tuple #[.int .i64 (Gp.lo c k x),.int .i64 (Gp.hi c k x)])/\W=w' from r6Of c.seg k x W g1 g2 (by omega) (by omega) (by omega) (by omega)));have CA:=aq (fun (k:Nat) W (hk:k<=H) (hb:Below w.heap.size w W)=>r9AmongW c s a H k x W (h.below hb) hs hm K hsg hk hx);have CN:=aq (fun (k:Nat) (n:Int) W (hk:k<=H) (n0:0<=n) (n1:n<=65537)=>r5NotManyW c s.keys.length k n W (K.ok hk (Int.le_refl 0) (by have:=K.wpos k;omega)) n0 n1);have CB:=aq (fun (k:Nat) (hk:k<=H)=>Gp.cnt_win K hm hsg hk hx);have HT0:=aq (show Gp.over c s x=Gp.topF (Gp.overP c s x) (H+1) by unfold Gp.over Gp.tall;rw [K.tall])
 rw [HT0.out];clear h hs hm K hsg hx HT0 sz g1 g2;unfold cfv at CH CN;unfold slv at CA;unfold slv cfv
 go_enter Tryz.func80,Tryz.ntmps80
 unfold cfCells at hW0
 go_upto_region 1 with (fail)
 rw [<-hW0];clear hW0;obtain⟨_,c0,c1,c2,c3,c4,c5,c6,c7,c8,_⟩:=BC.out;obtain⟨_,q0,q1,q2,q3,q4,q5,_⟩:=BX.out
 go_wp2_with fail
 refine (CH.out _).mono ?_;rintro e w1 ⟨rfl,hb⟩;have HB1:=aq hb;clear c0 c1 c2 c3 c4 c5 c6 c7 c8 q0 q1 q2 q3 q4 q5 hb;go_wp2
 go_loopw [8] (fun i wr=>∃ k:Nat,k<=H+1/\i=.int .i64 ((k:Int)-1)/\Gp.topF (Gp.overP c s x) (H+1)=Gp.topF (Gp.overP c s x) k/\Below W0.heap.size W0 wr) (fun i _=>(intOf i+1).toNat)
 case atStart=>exact⟨H+1,Nat.le_refl _,by congr 1;omega,rfl,HB1.out⟩
 case round =>
  obtain⟨k,hk,rfl,ht,hbr⟩:=hrel;have HT:=aq ht;have HB:=aq hbr;clear ht hbr
  rcases k with _ | j
  ·have e0:((0:Nat):Int)-1=-1:=by omega
   rw [e0];go_wp2;go_ret;exact⟨by rw [HT.out];rfl,BB.out.trans (HB.out.mono BB.out.size)⟩
  ·have e1:((j+1:Nat):Int)-1=(j:Int):=by omega
   rw [e1]
   have hj:j<=H:=by omega
   have i0:(0:Int)<=(j:Int):=by omega
   have y0:IntKind.i64.wrap ((j:Int)-1)=(j:Int)-1:=IntWalk.i64_in _ (by omega);have CO:=aq (fun W=>CO0.out j W hj);have CA1:=aq (fun W hb=>CA.out j W hj hb);have CB1:=CB.out j hj;have TT:=aq (show Gp.topF (Gp.overP c s x) (j+1)=(if Gp.overP c s x j then (j:Int) else Gp.topF (Gp.overP c s x) j) from rfl);have PD:=aq (show Gp.overP c s x j=!c.manyB s.keys.length j (Gp.cnt s (Gp.lo c j x) (Gp.hi c j x)+1) from rfl);obtain⟨M,hM⟩:∃ M,Gp.cnt s (Gp.lo c j x) (Gp.hi c j x)=M:=⟨_,rfl⟩;obtain⟨LO,hLO⟩:∃ LO,Gp.lo c j x=LO:=⟨_,rfl⟩;obtain⟨HI,hHI⟩:∃ HI,Gp.hi c j x=HI:=⟨_,rfl⟩;rw [hM] at CA1 CB1 PD;rw [hLO,hHI] at CO CA1;have CN1:=aq (fun W=>CN.out j (M+1) W hj (by omega) (by omega));have y1:IntKind.i64.wrap (M+1)=M+1:=IntWalk.i64_in _ (by omega);clear hM hLO hHI CB1 e1;obtain⟨_,c0,c1,c2,c3,c4,c5,c6,c7,c8,_⟩:=BC.out.below HB.out;obtain⟨_,q0,q1,q2,q3,q4,q5,_⟩:=BX.out.below HB.out
   cases hv:c.manyB s.keys.length j (M+1)
   ·have TF:=aq (show Gp.topF (Gp.overP c s x) (H+1)=(j:Int) by rw [HT.out,TT.out,PD.out,hv];rfl)
    rw [hv] at CN1;clear hv TT PD HT
    go_wp2_with fail
    refine (CO.out _).mono ?_;rintro e w4 ⟨rfl,rfl⟩;clear c0 c1 c2 c3 c4 c5 c6 c7 c8 q0 q1 q2 q3 q4 q5
    go_upto_region 6 with (fail)
    have dr:=HB.out.drew;refine wp_region_held_drew (S:=(fun w'=>(w'.cell? ⟨w.heap.size,0,none⟩=some (.int .u8 c.tag)/\w'.cell? ⟨w.heap.size,1,none⟩=some (.int .i64 c.most)/\w'.cell? ⟨w.heap.size,2,none⟩=some (.int .i64 c.seg)/\w'.cell? ⟨w.heap.size,3,none⟩=some (.int .i64 c.least)/\w'.cell? ⟨w.heap.size,4,none⟩=some (.int .i64 c.den)/\w'.cell? ⟨w.heap.size,5,none⟩=some (.int .i64 c.ll)/\w'.cell? ⟨w.heap.size,6,none⟩=some (.int .i64 c.rl)/\w'.cell? ⟨w.heap.size,7,none⟩=some (.int .i64 c.rh)/\w'.cell? ⟨w.heap.size,8,none⟩=some (.int .i64 c.lh)/\w'.cell? ⟨w.heap.size+1,0,none⟩=some (.int .i64 s.seg)/\w'.cell? ⟨w.heap.size+1,1,none⟩=some (.slice a.w s.words.length a.cw)/\w'.cell? ⟨w.heap.size+1,2,none⟩=some (.slice a.k s.keys.length a.ck)/\w'.cell? ⟨w.heap.size+1,3,none⟩=some (.slice a.v s.vals.length a.cv)/\w'.cell? ⟨w.heap.size+1,4,none⟩=some (.slice a.c s.counts.length a.cc)/\w'.cell? ⟨w.heap.size+1,5,none⟩=some (.int .u64 (s.laid:Int)))/\Hid (Below W0.heap.size W0 w'))) (by kernel_rfl) (⟨boxes2r (BC.out.below dr) (BX.out.below dr),aq dr⟩) (fun hHeld=>?_);refine tk 0 ?_;refine tk 1 ?_;refine tk 2 ?_;refine tk 3 ?_;refine tk 4 ?_;refine tk 5 ?_;refine rdH 6 fun K hK=>?_;go_simp;refine (CA1.out _ (BB.out.trans (hHeld.2.out.mono BB.out.size))).mono ?_;rintro e w5 ⟨rfl,hb5⟩;go_simp;refine hK.out _ _ (by have q:=hHeld.2.out.trans (hb5.mono hHeld.2.out.size);exact⟨boxes2r (BC.out.below q) (BX.out.below q),aq q⟩) (fun hHelda1=>?_)
    clear hK K hHeld
    try simp only [sZ]
    refine tk 7 ?_;refine rdH 8 fun K hK=>?_;go_simp;refine (CN1.out _).mono ?_;rintro e w6 ⟨rfl,hb6⟩;go_simp;refine hK.out _ _ (by have q:=hHelda1.2.out.trans (hb6.mono hHelda1.2.out.size);exact⟨boxes2r (BC.out.below q) (BX.out.below q),aq q⟩) (fun hHelda2=>?_);clear hK K hHelda1
    try simp only [sZ]
    refine tk 9 ?_;refine wpAnyH_done (by kernel_rfl) ?_ _;have BE:=aq hHelda2.2.out;clear hHelda2 dr;go_wp2;go_ret;rw [TF.out];exact⟨rfl,BB.out.trans (BE.out.mono BB.out.size)⟩
   ·have TF:=aq (show Gp.topF (Gp.overP c s x) (j+1)=Gp.topF (Gp.overP c s x) j by rw [TT.out,PD.out,hv];rfl)
    rw [hv] at CN1;clear hv TT PD
    go_wp2_with fail
    refine (CO.out _).mono ?_;rintro e w4 ⟨rfl,rfl⟩;clear c0 c1 c2 c3 c4 c5 c6 c7 c8 q0 q1 q2 q3 q4 q5
    go_upto_region 6 with (fail)
    have dr:=HB.out.drew;refine wp_region_held_drew (S:=(fun w'=>(w'.cell? ⟨w.heap.size,0,none⟩=some (.int .u8 c.tag)/\w'.cell? ⟨w.heap.size,1,none⟩=some (.int .i64 c.most)/\w'.cell? ⟨w.heap.size,2,none⟩=some (.int .i64 c.seg)/\w'.cell? ⟨w.heap.size,3,none⟩=some (.int .i64 c.least)/\w'.cell? ⟨w.heap.size,4,none⟩=some (.int .i64 c.den)/\w'.cell? ⟨w.heap.size,5,none⟩=some (.int .i64 c.ll)/\w'.cell? ⟨w.heap.size,6,none⟩=some (.int .i64 c.rl)/\w'.cell? ⟨w.heap.size,7,none⟩=some (.int .i64 c.rh)/\w'.cell? ⟨w.heap.size,8,none⟩=some (.int .i64 c.lh)/\w'.cell? ⟨w.heap.size+1,0,none⟩=some (.int .i64 s.seg)/\w'.cell? ⟨w.heap.size+1,1,none⟩=some (.slice a.w s.words.length a.cw)/\w'.cell? ⟨w.heap.size+1,2,none⟩=some (.slice a.k s.keys.length a.ck)/\w'.cell? ⟨w.heap.size+1,3,none⟩=some (.slice a.v s.vals.length a.cv)/\w'.cell? ⟨w.heap.size+1,4,none⟩=some (.slice a.c s.counts.length a.cc)/\w'.cell? ⟨w.heap.size+1,5,none⟩=some (.int .u64 (s.laid:Int)))/\Hid (Below W0.heap.size W0 w'))) (by kernel_rfl) (⟨boxes2r (BC.out.below dr) (BX.out.below dr),aq dr⟩) (fun hHeld=>?_);refine tk 0 ?_;refine tk 1 ?_;refine tk 2 ?_;refine tk 3 ?_;refine tk 4 ?_;refine tk 5 ?_;refine rdH 6 fun K hK=>?_;go_simp;refine (CA1.out _ (BB.out.trans (hHeld.2.out.mono BB.out.size))).mono ?_;rintro e w5 ⟨rfl,hb5⟩;go_simp;refine hK.out _ _ (by have q:=hHeld.2.out.trans (hb5.mono hHeld.2.out.size);exact⟨boxes2r (BC.out.below q) (BX.out.below q),aq q⟩) (fun hHeldb1=>?_)
    clear hK K hHeld
    try simp only [sZ]
    refine tk 7 ?_;refine rdH 8 fun K hK=>?_;go_simp;refine (CN1.out _).mono ?_;rintro e w6 ⟨rfl,hb6⟩;go_simp;refine hK.out _ _ (by have q:=hHeldb1.2.out.trans (hb6.mono hHeldb1.2.out.size);exact⟨boxes2r (BC.out.below q) (BX.out.below q),aq q⟩) (fun hHeldb2=>?_);clear hK K hHeldb1
    try simp only [sZ]
    refine tk 9 ?_;refine wpAnyH_done (by kernel_rfl) ?_ _;have BE:=aq hHeldb2.2.out;clear hHeldb2 dr;go_wp2
    go_roundw
    case rel=>exact⟨j,by omega,by first | rfl | (congr 1<;>omega),by rw [HT.out,TF.out],BE.out⟩
    case measure=>simp [intOf]<;>omega
theorem r9under (c:Cf) (s:Sl) (a:Ads) (H:Nat) (x:Nat) (w:World) (h:Held w s a) (hs:s.Short) (hm:s.May) (K:Gp.Cap c s.keys.length H) (hsg:s.seg=c.seg) (hx:x < s.keys.length) :
  Calls Tryz.prog 88 #[cfv c,slv s a,.int .i64 (x:Int)] w fun e w'=>e=.returned (.int .i64 (Gp.under c s x))/\Below w.heap.size w w':=by
 have l2:=hs.keys;have g1:=K.fit.g1;have g2:=hm.seg2;rw [hsg] at g2;have h14:=K.fit.h14
 have sz:c.seg<=(s.keys.length:Int):=by
  have e:=K.wide_le (Nat.zero_le H)
  have:c.wide ((0:Nat):Int)=c.seg:=by show c.seg*2^0=_;simp
  omega
 obtain⟨W0,hW0⟩:∃ W0,W0=(w.alloc (.cells (cfCells c) 32)).alloc (.cells #[.int .i64 s.seg,.slice a.w s.words.length a.cw,.slice a.k s.keys.length a.ck,.slice a.v s.vals.length a.cv,.slice a.c s.counts.length a.cc,.int .u64 (s.laid:Int)] 27):=⟨_,rfl⟩;have BB:=aq (show Below w.heap.size w W0 by rw [hW0];exact ((Below.refl w.heap.size w).alloc (Nat.le_refl _) _).alloc (by simp) _);have BC:=aq (show CBox W0 w.heap.size c by rw [hW0];exact (CBox.new w c 32).below ((Below.refl _ _).alloc (Nat.le_refl _) _));have BX:=aq (show Box W0 (w.heap.size+1) s a by rw [hW0];exact Box.second w _ s a 27);have CH:=aq (fun W=>r5Height c s.keys.length W g1 sz (by omega));rw [K.high] at CH;have CO0:=aq (fun (k:Nat) W (hk:k<=H)=>(show Calls Tryz.prog 84 #[.int .i64 c.seg,.int .i64 (k:Int),.int .i64 (x:Int)] W fun e w'=>e=.returned (.tuple #[.int .i64 (Gp.lo c k x),.int .i64 (Gp.hi c k x)])/\W=w' from r6Of c.seg k x W g1 g2 (by omega) (by omega) (by omega) (by omega)));have CA:=aq (fun (k:Nat) W (hk:k<=H) (hb:Below w.heap.size w W)=>r9AmongW c s a H k x W (h.below hb) hs hm K hsg hk hx);have CN:=aq (fun (k:Nat) (n:Int) W (hk:k<=H) (n0:0<=n) (n1:n<=c.wide k)=>r5NotFew c s.keys.length k n W (K.ok hk n0 n1));have CB:=aq (fun (k:Nat) (hk:k<=H)=>Gp.cnt_win K hm hsg hk hx);have HT0:=aq (show Gp.under c s x=Gp.topF (Gp.underP c s x) (H+1) by unfold Gp.under Gp.tall;rw [K.tall])
 rw [HT0.out];clear h hs hm K hsg hx HT0 sz g1 g2;unfold cfv at CH CN;unfold slv at CA;unfold slv cfv
 go_enter Tryz.func88,Tryz.ntmps88
 unfold cfCells at hW0
 go_upto_region 1 with (fail)
 rw [<-hW0];clear hW0;obtain⟨_,c0,c1,c2,c3,c4,c5,c6,c7,c8,_⟩:=BC.out;obtain⟨_,q0,q1,q2,q3,q4,q5,_⟩:=BX.out
 go_wp2_with fail
 refine (CH.out _).mono ?_;rintro e w1 ⟨rfl,hb⟩;have HB1:=aq hb;clear c0 c1 c2 c3 c4 c5 c6 c7 c8 q0 q1 q2 q3 q4 q5 hb;go_wp2
 go_loopw [8] (fun i wr=>∃ k:Nat,k<=H+1/\i=.int .i64 ((k:Int)-1)/\Gp.topF (Gp.underP c s x) (H+1)=Gp.topF (Gp.underP c s x) k/\Below W0.heap.size W0 wr) (fun i _=>(intOf i+1).toNat)
 case atStart=>exact⟨H+1,Nat.le_refl _,by congr 1;omega,rfl,HB1.out⟩
 case round =>
  obtain⟨k,hk,rfl,ht,hbr⟩:=hrel;have HT:=aq ht;have HB:=aq hbr;clear ht hbr
  rcases k with _ | j
  ·have e0:((0:Nat):Int)-1=-1:=by omega
   rw [e0];go_wp2;go_ret;exact⟨by rw [HT.out];rfl,BB.out.trans (HB.out.mono BB.out.size)⟩
  ·have e1:((j+1:Nat):Int)-1=(j:Int):=by omega
   rw [e1]
   have hj:j<=H:=by omega
   have i0:(0:Int)<=(j:Int):=by omega
   have y0:IntKind.i64.wrap ((j:Int)-1)=(j:Int)-1:=IntWalk.i64_in _ (by omega);have CO:=aq (fun W=>CO0.out j W hj);have CA1:=aq (fun W hb=>CA.out j W hj hb);have CB1:=CB.out j hj;have TT:=aq (show Gp.topF (Gp.underP c s x) (j+1)=(if Gp.underP c s x j then (j:Int) else Gp.topF (Gp.underP c s x) j) from rfl);have PD:=aq (show Gp.underP c s x j=!c.fewB s.keys.length j (Gp.cnt s (Gp.lo c j x) (Gp.hi c j x)) from rfl);obtain⟨M,hM⟩:∃ M,Gp.cnt s (Gp.lo c j x) (Gp.hi c j x)=M:=⟨_,rfl⟩;obtain⟨LO,hLO⟩:∃ LO,Gp.lo c j x=LO:=⟨_,rfl⟩;obtain⟨HI,hHI⟩:∃ HI,Gp.hi c j x=HI:=⟨_,rfl⟩;rw [hM] at CA1 CB1 PD;rw [hLO,hHI] at CO CA1;have CN1:=aq (fun W=>CN.out j M W hj (by omega) (by omega));skip;clear hM hLO hHI CB1 e1;obtain⟨_,c0,c1,c2,c3,c4,c5,c6,c7,c8,_⟩:=BC.out.below HB.out;obtain⟨_,q0,q1,q2,q3,q4,q5,_⟩:=BX.out.below HB.out
   cases hv:c.fewB s.keys.length j M
   ·have TF:=aq (show Gp.topF (Gp.underP c s x) (H+1)=(j:Int) by rw [HT.out,TT.out,PD.out,hv];rfl)
    rw [hv] at CN1;clear hv TT PD HT
    go_wp2_with fail
    refine (CO.out _).mono ?_;rintro e w4 ⟨rfl,rfl⟩;clear c0 c1 c2 c3 c4 c5 c6 c7 c8 q0 q1 q2 q3 q4 q5
    go_upto_region 6 with (fail)
    have dr:=HB.out.drew;refine wp_region_held_drew (S:=(fun w'=>(w'.cell? ⟨w.heap.size,0,none⟩=some (.int .u8 c.tag)/\w'.cell? ⟨w.heap.size,1,none⟩=some (.int .i64 c.most)/\w'.cell? ⟨w.heap.size,2,none⟩=some (.int .i64 c.seg)/\w'.cell? ⟨w.heap.size,3,none⟩=some (.int .i64 c.least)/\w'.cell? ⟨w.heap.size,4,none⟩=some (.int .i64 c.den)/\w'.cell? ⟨w.heap.size,5,none⟩=some (.int .i64 c.ll)/\w'.cell? ⟨w.heap.size,6,none⟩=some (.int .i64 c.rl)/\w'.cell? ⟨w.heap.size,7,none⟩=some (.int .i64 c.rh)/\w'.cell? ⟨w.heap.size,8,none⟩=some (.int .i64 c.lh)/\w'.cell? ⟨w.heap.size+1,0,none⟩=some (.int .i64 s.seg)/\w'.cell? ⟨w.heap.size+1,1,none⟩=some (.slice a.w s.words.length a.cw)/\w'.cell? ⟨w.heap.size+1,2,none⟩=some (.slice a.k s.keys.length a.ck)/\w'.cell? ⟨w.heap.size+1,3,none⟩=some (.slice a.v s.vals.length a.cv)/\w'.cell? ⟨w.heap.size+1,4,none⟩=some (.slice a.c s.counts.length a.cc)/\w'.cell? ⟨w.heap.size+1,5,none⟩=some (.int .u64 (s.laid:Int)))/\Hid (Below W0.heap.size W0 w'))) (by kernel_rfl) (⟨boxes2r (BC.out.below dr) (BX.out.below dr),aq dr⟩) (fun hHeld=>?_);refine tk 0 ?_;refine tk 1 ?_;refine tk 2 ?_;refine tk 3 ?_;refine tk 4 ?_;refine tk 5 ?_;refine rdH 6 fun K hK=>?_;go_simp;refine (CA1.out _ (BB.out.trans (hHeld.2.out.mono BB.out.size))).mono ?_;rintro e w5 ⟨rfl,hb5⟩;go_simp;refine hK.out _ _ (by have q:=hHeld.2.out.trans (hb5.mono hHeld.2.out.size);exact⟨boxes2r (BC.out.below q) (BX.out.below q),aq q⟩) (fun hHelda1=>?_)
    clear hK K hHeld
    try simp only [sZ]
    refine rdH 7 fun K hK=>?_;go_simp;refine (CN1.out _).mono ?_;rintro e w6 ⟨rfl,hb6⟩;go_simp;refine hK.out _ _ (by have q:=hHelda1.2.out.trans (hb6.mono hHelda1.2.out.size);exact⟨boxes2r (BC.out.below q) (BX.out.below q),aq q⟩) (fun hHelda2=>?_);clear hK K hHelda1
    try simp only [sZ]
    refine tk 8 ?_;refine wpAnyH_done (by kernel_rfl) ?_ _;have BE:=aq hHelda2.2.out;clear hHelda2 dr;go_wp2;go_ret;rw [TF.out];exact⟨rfl,BB.out.trans (BE.out.mono BB.out.size)⟩
   ·have TF:=aq (show Gp.topF (Gp.underP c s x) (j+1)=Gp.topF (Gp.underP c s x) j by rw [TT.out,PD.out,hv];rfl)
    rw [hv] at CN1;clear hv TT PD
    go_wp2_with fail
    refine (CO.out _).mono ?_;rintro e w4 ⟨rfl,rfl⟩;clear c0 c1 c2 c3 c4 c5 c6 c7 c8 q0 q1 q2 q3 q4 q5
    go_upto_region 6 with (fail)
    have dr:=HB.out.drew;refine wp_region_held_drew (S:=(fun w'=>(w'.cell? ⟨w.heap.size,0,none⟩=some (.int .u8 c.tag)/\w'.cell? ⟨w.heap.size,1,none⟩=some (.int .i64 c.most)/\w'.cell? ⟨w.heap.size,2,none⟩=some (.int .i64 c.seg)/\w'.cell? ⟨w.heap.size,3,none⟩=some (.int .i64 c.least)/\w'.cell? ⟨w.heap.size,4,none⟩=some (.int .i64 c.den)/\w'.cell? ⟨w.heap.size,5,none⟩=some (.int .i64 c.ll)/\w'.cell? ⟨w.heap.size,6,none⟩=some (.int .i64 c.rl)/\w'.cell? ⟨w.heap.size,7,none⟩=some (.int .i64 c.rh)/\w'.cell? ⟨w.heap.size,8,none⟩=some (.int .i64 c.lh)/\w'.cell? ⟨w.heap.size+1,0,none⟩=some (.int .i64 s.seg)/\w'.cell? ⟨w.heap.size+1,1,none⟩=some (.slice a.w s.words.length a.cw)/\w'.cell? ⟨w.heap.size+1,2,none⟩=some (.slice a.k s.keys.length a.ck)/\w'.cell? ⟨w.heap.size+1,3,none⟩=some (.slice a.v s.vals.length a.cv)/\w'.cell? ⟨w.heap.size+1,4,none⟩=some (.slice a.c s.counts.length a.cc)/\w'.cell? ⟨w.heap.size+1,5,none⟩=some (.int .u64 (s.laid:Int)))/\Hid (Below W0.heap.size W0 w'))) (by kernel_rfl) (⟨boxes2r (BC.out.below dr) (BX.out.below dr),aq dr⟩) (fun hHeld=>?_);refine tk 0 ?_;refine tk 1 ?_;refine tk 2 ?_;refine tk 3 ?_;refine tk 4 ?_;refine tk 5 ?_;refine rdH 6 fun K hK=>?_;go_simp;refine (CA1.out _ (BB.out.trans (hHeld.2.out.mono BB.out.size))).mono ?_;rintro e w5 ⟨rfl,hb5⟩;go_simp;refine hK.out _ _ (by have q:=hHeld.2.out.trans (hb5.mono hHeld.2.out.size);exact⟨boxes2r (BC.out.below q) (BX.out.below q),aq q⟩) (fun hHeldb1=>?_)
    clear hK K hHeld
    try simp only [sZ]
    refine rdH 7 fun K hK=>?_;go_simp;refine (CN1.out _).mono ?_;rintro e w6 ⟨rfl,hb6⟩;go_simp;refine hK.out _ _ (by have q:=hHeldb1.2.out.trans (hb6.mono hHeldb1.2.out.size);exact⟨boxes2r (BC.out.below q) (BX.out.below q),aq q⟩) (fun hHeldb2=>?_);clear hK K hHeldb1
    try simp only [sZ]
    refine tk 8 ?_;refine wpAnyH_done (by kernel_rfl) ?_ _;have BE:=aq hHeldb2.2.out;clear hHeldb2 dr;go_wp2
    go_roundw
    case rel=>exact⟨j,by omega,by first | rfl | (congr 1<;>omega),by rw [HT.out,TF.out],BE.out⟩
    case measure=>simp [intOf]<;>omega
theorem own_lstP {w:World} {base:Nat} {e:TypeId} {v:Value} {ps:List Nat} (h:w.ownsRow base e 1 v ps.length (ps.map fun s:Nat=>Value.int .i64 (s:Int))) :
  ∃ A cap,v=.slice A ps.length cap/\Lst .i64 w A (ints ps):=by
 rcases h.2 with⟨hv,h0⟩ | ⟨g,cap,cur,hv,_⟩
 ·exact⟨none,0,by rw [hv,h0],by rw [List.eq_nil_of_length_eq_zero h0];exact Or.inl rfl⟩
 ·subst hv
  refine⟨_,cap,rfl,?_⟩
  by_cases h0:ps=[]
  ·rw [h0];exact Or.inl rfl
  ·refine Or.inr ⟨g,0,rfl,(World.ownsRow.lt h g rfl).2,fun i hi=>?_⟩
   rw [ints_length] at hi;have:=World.ownsRow.cells h (g:=g) rfl i (.int .i64 ((ps.getD i 0:Nat):Int)) (by simp [List.getD,List.getElem?_eq_getElem hi]);rw [ints_getD,<-this]
   congr 1
   unfold Addr.add
   split<;>simp_all
theorem r2PlacesP (a:Option Addr) (cap:Nat) (ws:List Nat) (lo hi:Nat) (w:World) (hl:Lst .u64 w a (ints ws)) (hw:Wide ws) (hn:ws.length<=65536) (hh:hi<=64*ws.length) (hlo:lo<=4194304) :
  Calls Tryz.prog 130 #[.slice a ws.length cap,.int .i64 (lo:Int),.int .i64 (hi:Int)] w fun e w'=>∃ A c,e=.returned (.slice A (Oc.places ws lo hi).length c)/\Lst .i64 w' A (ints (Oc.places ws lo hi))/\Below w.heap.size w w':=by
 refine (r2Places a cap ws lo hi w hl hw hn hh hlo).mono ?_;rintro e w' ⟨v,rfl,hown,hb⟩;obtain⟨A,c,rfl,hL⟩:=own_lstP hown;exact⟨A,c,rfl,hL,hb⟩
theorem Lst.numP {w:World} {a:Option Addr} {ps:List Nat} (h:Lst .i64 w a (ints ps)) {i:Nat} (hi:i < ps.length) :
  ∃ b off,a=some ⟨b,off,none⟩/\b < w.heap.size/\w.cell? ⟨b,off+i,none⟩=some (.int .i64 ((ps.getD i 0:Nat):Int)):=by
 have:=h.cell (i:=i) (by rw [ints_length];exact hi);rw [ints_getD] at this;exact this
theorem r9Place (s:Sl) (a:Ads) (k:Nat) (w:World) (h:Held w s a) (hok:s.Ok) (hs:s.Short) (hm:s.May) (hk:(k:Int) < Gp.many s) :
  Calls Tryz.prog 86 #[slv s a,.int .i64 (k:Int)] w fun e w'=>e=.returned (.int .i64 ((Gp.place s k:Nat):Int))/\Below w.heap.size w w':=by
 have l1:=hs.words;have l2:=hs.keys;have wl:=hm.wlen;have BX:=aq (Box.new w s a 27);have BB:=aq (fun o=>(Below.refl w.heap.size w).alloc (Nat.le_refl _) o);have CP:=aq (fun o=>r2PlacesP a.w a.cw s.words 0 s.keys.length (w.alloc o) (h.alloc o).words hok.words hs.words (by omega) (by omega))
 have HK:k < (Oc.places s.words 0 s.keys.length).length:=by
  have e:Gp.many s=((Oc.places s.words 0 s.keys.length).length:Int):=Gp.cnt_nat s 0 s.keys.length
  omega
 have HZ:=aq (show (Oc.places s.words 0 s.keys.length).getD k 0=Gp.place s k from rfl);have hle:=Oc.places_length_le s.words 0 s.keys.length;obtain⟨P,hP⟩:∃ P,Oc.places s.words 0 s.keys.length=P:=⟨_,rfl⟩;rw [hP] at CP HK HZ hle;obtain⟨z,hz⟩:∃ z,Gp.place s k=z:=⟨_,rfl⟩;rw [hz] at HZ ⊢
 have i0:(0:Int)<=(k:Int):=by omega
 have i1:(k:Int) < (P.length:Int):=by omega
 clear h hok hs hm hk wl hP hz;unfold slv
 go_enter Tryz.func86,Tryz.ntmps86
 obtain⟨_,q0,q1,q2,q3,q4,q5,_⟩:=BX.out;unfold slCells at q0 q1 q2 q3 q4 q5
 go_wp2_with fail
 refine (CP.out _).mono ?_;rintro e w1 ⟨A,c,rfl,hL,hb⟩;obtain⟨b0,o0,rfl,_,hcell⟩:=hL.numP (i:=k) HK;rw [HZ.out] at hcell;have HB:=aq ((BB.out _).trans (hb.mono (BB.out _).size));clear hL hb q0 q1 q2 q3 q4 q5;go_wp2;go_ret;exact⟨rfl,HB.out⟩
theorem r9Home (s:Sl) (a:Ads) (k:Int) (w:World) (h:Held w s a) (hok:s.Ok) (hs:s.Short) (hm:s.May) (h0:0<=k) (hk:k<=Gp.many s) :
  Calls Tryz.prog 79 #[slv s a,.int .i64 k] w fun e w'=>e=.returned (.int .i64 ((Gp.home s k:Nat):Int))/\Below w.heap.size w w':=by
 have BX:=aq (Box.new w s a 27);have BB:=aq (fun o=>(Below.refl w.heap.size w).alloc (Nat.le_refl _) o);have CM:=aq (fun W (hb:Below w.heap.size w W)=>r9Many s a W (h.below hb) hs hm);have CP:=aq (fun (j:Nat) W (hj:(j:Int) < Gp.many s) (hb:Below w.heap.size w W)=>r9Place s a j W (h.below hb) hok hs hm hj)
 have m1:Gp.many s<=65536:=by
  have q:=Gp.cnt_le s (a:=0) (b:=(s.keys.length:Int)) (by omega) (by omega);have:=hs.keys
  show Gp.cnt s 0 s.keys.length<=_
  omega
 have HH:=aq (show Gp.home s k=(if Gp.many s=0 then 0 else Gp.place s (k-1).toNat) from rfl);rw [HH.out];clear h hok hs hm HH;obtain⟨m,hmm⟩:∃ m,Gp.many s=m:=⟨_,rfl⟩;rw [hmm] at CM CP hk m1 ⊢;clear hmm;unfold slv at CM CP ⊢
 by_cases hz:m=0
 ·rw [if_pos hz]
  subst hz
  go_enter Tryz.func79,Tryz.ntmps79
  obtain⟨_,q0,q1,q2,q3,q4,q5,_⟩:=BX.out;unfold slCells at q0 q1 q2 q3 q4 q5
  go_wp2_with fail
  refine (CM.out _ (BB.out _)).mono ?_;rintro e w1 ⟨rfl,hb⟩;have HB:=aq ((BB.out _).trans (hb.mono (BB.out _).size));clear hb q0 q1 q2 q3 q4 q5;go_wp2;go_ret;exact⟨rfl,HB.out⟩
 ·rw [if_neg hz]
  have k1:(m==0)=false:=by simpa using hz
  by_cases h1:k=0
  ·subst h1
   have CP1:=aq (fun W hb=>CP.out 0 W (by omega) hb);rw [show ((0:Int)-1).toNat=0 from rfl];clear CP
   go_enter Tryz.func79,Tryz.ntmps79
   obtain⟨_,q0,q1,q2,q3,q4,q5,_⟩:=BX.out;unfold slCells at q0 q1 q2 q3 q4 q5
   go_wp2_with fail
   refine (CM.out _ (BB.out _)).mono ?_;rintro e w1 ⟨rfl,hb⟩;have B1:=aq ((BB.out _).trans (hb.mono (BB.out _).size));have X1:=aq (BX.out.below hb);clear hb q0 q1 q2 q3 q4 q5;unfold slCells at X1;obtain⟨_,q0,q1,q2,q3,q4,q5,_⟩:=X1.out
   go_wp2_with fail
   refine (CP1.out _ B1.out).mono ?_;rintro e w2 ⟨rfl,hb⟩;clear q0 q1 q2 q3 q4 q5;go_wp2;go_ret;exact⟨rfl,B1.out.trans (hb.mono B1.out.size)⟩
  ·have k2:(k==0)=false:=by simpa using h1
   obtain⟨j,hj⟩:∃ j:Nat,(k-1).toNat=j:=⟨_,rfl⟩
   have hj2:k-1=(j:Int):=by omega
   have y1:IntKind.i64.wrap (k-1)=(j:Int):=by rw [hj2];exact IntWalk.i64_in _ (by omega)
   have CP1:=aq (fun W hb=>CP.out j W (by omega) hb);rw [hj];clear CP hj hj2
   go_enter Tryz.func79,Tryz.ntmps79
   obtain⟨_,q0,q1,q2,q3,q4,q5,_⟩:=BX.out;unfold slCells at q0 q1 q2 q3 q4 q5
   go_wp2_with fail
   refine (CM.out _ (BB.out _)).mono ?_;rintro e w1 ⟨rfl,hb⟩;have B1:=aq ((BB.out _).trans (hb.mono (BB.out _).size));have X1:=aq (BX.out.below hb);clear hb q0 q1 q2 q3 q4 q5;obtain⟨_,q0,q1,q2,q3,q4,q5,_⟩:=X1.out
   go_wp2_with fail
   refine (CP1.out _ B1.out).mono ?_;rintro e w2 ⟨rfl,hb⟩;clear q0 q1 q2 q3 q4 q5;go_wp2;go_ret;exact⟨rfl,B1.out.trans (hb.mono B1.out.size)⟩
theorem r8AmongAny {base:Nat} {v:Value} (ps:List (Int×Int)) (k:Nat) (p:Int×Int) (w:World) (hr:w.ownsRow base 36 2 v ps.length (pcells ps)) (hk:k<=ps.length) (hn:ps.length<=65536) :
  ∃ A c,v=.slice A ps.length c/\∀ W,Below w.heap.size w W->Calls Tryz.prog 81 #[.slice A ps.length c,.int .i64 (k:Int),pv p] W fun e w'=>∃ A' c',e=.returned (.slice A' (Ly.among ps k p).length c')/\PLst w' A' (Ly.among ps k p)/\Below W.heap.size W w':=by
 rcases prow_cases hr with⟨rfl,rfl⟩ | ⟨g,c1,rfl,hP,hc1⟩
 ·obtain rfl:k=0:=by simp at hk;exact hk
  refine⟨none,0,rfl,fun W _=>(r8AmongNil p W).mono ?_⟩;rintro e w' ⟨v,rfl,h1,h2⟩;obtain⟨A',c',rfl,h3⟩:=prow_list h1;exact⟨A',c',rfl,h3,h2⟩
 ·refine⟨_,c1,rfl,fun W hb=>(r8Among g 0 c1 ps k p W (hP.below hb) hk hn hc1).mono ?_⟩
  rintro e w' ⟨v,rfl,h1,h2⟩;obtain⟨A',c',rfl,h3⟩:=prow_list h1;exact⟨A',c',rfl,h3,h2⟩
theorem boxes3r {W:World} {g g' g2:Nat} {c:Cf} {s:Sl} {a:Ads} {p1 p2:Int} (C:CBox W g c) (X:Box W g' s a) (Q:PBox W g2 (p1,p2)):W.cell? ⟨g,0,none⟩=some (.int .u8 c.tag)/\W.cell? ⟨g,1,none⟩=some (.int .i64 c.most)/\W.cell? ⟨g,2,none⟩=some (.int .i64 c.seg)/\W.cell? ⟨g,3,none⟩=some (.int .i64 c.least)/\W.cell? ⟨g,4,none⟩=some (.int .i64 c.den)/\W.cell? ⟨g,5,none⟩=some (.int .i64 c.ll)/\W.cell? ⟨g,6,none⟩=some (.int .i64 c.rl)/\W.cell? ⟨g,7,none⟩=some (.int .i64 c.rh)/\W.cell? ⟨g,8,none⟩=some (.int .i64 c.lh)/\W.cell? ⟨g',0,none⟩=some (.int .i64 s.seg)/\W.cell? ⟨g',1,none⟩=some (.slice a.w s.words.length a.cw)/\W.cell? ⟨g',2,none⟩=some (.slice a.k s.keys.length a.ck)/\W.cell? ⟨g',3,none⟩=some (.slice a.v s.vals.length a.cv)/\W.cell? ⟨g',4,none⟩=some (.slice a.c s.counts.length a.cc)/\W.cell? ⟨g',5,none⟩=some (.int .u64 (s.laid:Int))/\W.cell? ⟨g2,0,none⟩=some (.int .i64 p1)/\W.cell? ⟨g2,1,none⟩=some (.int .i64 p2) :=
 ⟨C.c0,C.c1,C.c2,C.c3,C.c4,C.c5,C.c6,C.c7,C.c8,X.c0,X.c1,X.c2,X.c3,X.c4,X.c5,Q.c0,Q.c1⟩
theorem r9AddedTop (c:Cf) (s:Sl) (a:Ads) (H:Nat) (k p1 p2:Int) (w:World) (h:Held w s a) (hok:s.Ok) (hs:s.Short) (O:Gp.Own c s H) (h0:0<=k) (hk:k<=Gp.many s) (hne:¬ Gp.many s=c.most) (i1:In64 p1) (i2:In64 p2) (ht:Gp.over c s (Gp.home s k)=c.high s.keys.length) :
  Calls Tryz.prog 36 #[cfv c,slv s a,.int .i64 k,.agg #[.int .i64 p1,.int .i64 p2]] w (SPost (Gp.addS c s k (p1,p2)) w):=by
 obtain⟨kk,rfl⟩:∃ kk:Nat,k=kk:=⟨k.toNat,by omega⟩;have V:=aq (show Gp.addS c s kk (p1,p2)=Ly.wide s (c.takes (Gp.many s+1)) (Ly.among (Gp.all s) kk (p1,p2)) by unfold Gp.addS;rw [if_pos ht,Int.toNat_natCast]);rw [V.out];clear V;have l2:=hs.keys;have mo:=O.most;have m2:=O.cap.may.sizes.most2;have al:=Gp.all_len s;have mn:=Gp.cnt_nn s 0 s.keys.length;have hx:=Gp.home_in O.may h0 hk;have HI:=O.cap.high;have ll:=Ly.among_length (Gp.all s) kk (p1,p2);have g1:=O.cap.fit.g1;have g2:=O.may.seg2
 have sz:c.seg<=(s.keys.length:Int):=by
  have e:=O.cap.wide_le (Nat.zero_le H)
  have:c.wide ((0:Nat):Int)=c.seg:=by show c.seg*2^0=_;simp
  omega
 have hmn:Gp.many s=Gp.cnt s 0 s.keys.length:=rfl;have FT:=may_fit (may_iff.2 O.may) hok hs
 have LE:((Ly.among (Gp.all s) kk (p1,p2)).length:Int)=Gp.many s+1:=by omega
 rw [<-LE];obtain⟨t1,hle,_,_⟩:=Gp.takes_right O.cap.may (m:=((Ly.among (Gp.all s) kk (p1,p2)).length:Int)) (by omega) (by omega)
 have hf:Sl.fitsB s.seg (c.takes (Ly.among (Gp.all s) kk (p1,p2)).length)=true:=by rw [O.seg];exact Gp.fits_cap O.cap.may t1
 have tz:=(O.cap.may.size_bd t1).1;have A64:In64P (Ly.among (Gp.all s) kk (p1,p2)):=Ly.among_in64 (of_in64 hok 0 s.keys.length) kk i1 i2;have CT:=aq (fun W=>r5Takes c (Ly.among (Gp.all s) kk (p1,p2)).length W O.cap.may.sizes O.cap.may.dens (by omega) (by omega));obtain⟨m,hm⟩:∃ m:Nat,c.takes (Ly.among (Gp.all s) kk (p1,p2)).length=m:=⟨(c.takes (Ly.among (Gp.all s) kk (p1,p2)).length).toNat,by omega⟩;rw [hm] at CT hf hle ⊢
 have hkL:kk<=(Gp.all s).length:=by omega
 have hnL:(Gp.all s).length<=65536:=by omega
 have CM0:=aq (fun W (hb:Below w.heap.size w W)=>r9Home s a kk W (h.below hb) hok hs O.may h0 hk);have CO0:=aq (fun W (hb:Below w.heap.size w W)=>r9over c s a H (Gp.home s kk) W (h.below hb) hs O.may O.cap O.seg hx);have CH:=aq (fun W=>r5Height c s.keys.length W g1 sz (by omega));rw [ht,HI] at CO0;rw [HI] at CH;have CF:=aq (show ∀ W,Below w.heap.size w W->Calls Tryz.prog 82 #[slv s a,.int .i64 0,.int .i64 (s.keys.length:Int)] W (POwn (Gp.all s) W) from fun W hb=>r4Of s a 0 s.keys.length W (h.below hb) hok hs O.may.vals (Nat.le_refl _) (by have:=O.may.wlen;omega) (by omega));obtain⟨L,hL⟩:∃ L,L=Gp.all s:=⟨_,rfl⟩;rw [<-hL] at hkL hnL CF CT hle A64 LE ⊢;obtain⟨M,hM⟩:∃ M,M=Ly.among L kk (p1,p2):=⟨_,rfl⟩;rw [<-hM] at CT hle A64 LE ⊢;obtain⟨t,ht2⟩:∃ t,t=Ly.wide s m M:=⟨_,rfl⟩
 have CW:=aq (show ∀ W A6 d6,PLst W A6 M->Calls Tryz.prog 83 #[slv s a,.int .i64 (m:Int),.slice A6 M.length d6] W (SPost t W) from fun W A6 d6 hp=>by
  rw [ht2]
  exact r8Wide s a m A6 d6 M W hok hf (by omega) hp A64)
 rw [<-ht2];obtain⟨x,hxx⟩:∃ x,Gp.home s kk=x:=⟨_,rfl⟩;rw [hxx] at CM0 CO0;have HM:=aq hM;obtain⟨W1,hW1⟩:∃ W1,W1=((w.alloc (.cells (cfCells c) 32)).alloc (.cells #[.int .i64 s.seg,.slice a.w s.words.length a.cw,.slice a.k s.keys.length a.ck,.slice a.v s.vals.length a.cv,.slice a.c s.counts.length a.cc,.int .u64 (s.laid:Int)] 27)).alloc (.cells #[.int .i64 p1,.int .i64 p2] 36):=⟨_,rfl⟩;have BB:=aq (show Below w.heap.size w W1 by rw [hW1];exact (((Below.refl w.heap.size w).alloc (Nat.le_refl _) _).alloc (by simp) _).alloc (by simp;omega) _);have BC:=aq (show CBox W1 w.heap.size c by rw [hW1];exact ((CBox.new w c 32).below ((Below.refl _ _).alloc (Nat.le_refl _) _)).below ((Below.refl _ _).alloc (Nat.le_refl _) _));have BX:=aq (show Box W1 (w.heap.size+1) s a by rw [hW1];exact (Box.second w _ s a 27).below ((Below.refl _ _).alloc (Nat.le_refl _) _))
 have BP:=aq (show PBox W1 (w.heap.size+1+1) (p1,p2) by
  rw [hW1];have q:=PBox.new ((w.alloc (.cells (cfCells c) 32)).alloc (.cells #[.int .i64 s.seg,.slice a.w s.words.length a.cw,.slice a.k s.keys.length a.ck,.slice a.v s.vals.length a.cv,.slice a.c s.counts.length a.cc,.int .u64 (s.laid:Int)] 27)) (p1,p2) 36
  simp only [World.size_alloc] at q
  exact q)
 have zz:W1.heap.size=w.heap.size+1+1+1:=by rw [hW1];simp
 have ZZ:=aq zz;obtain⟨W0,hW0⟩:∃ W0,W0=W1.alloc (.cells #[.int .i64 0,.slice none 0 0,.slice none 0 0,.slice none 0 0,.slice none 0 0,.int .u64 0] 27):=⟨_,rfl⟩;have BR:=aq (show Box W0 (w.heap.size+1+1+1) Sl.none adsNone by rw [<-zz,hW0];exact Box.new W1 Sl.none adsNone 27);have BW:=aq (show Below W1.heap.size W1 W0 by rw [hW0];exact (Below.refl _ _).alloc (Nat.le_refl _) _);have HB0:=aq (Below.refl W0.heap.size W0);clear h hok hs O h0 hk hne i1 i2 ht l2 mo m2 al mn hx HI ll g1 g2 sz hmn FT LE t1 hle hf tz A64 hm hL hM ht2 hxx zz;unfold slv cfv;unfold slv at CM0 CO0 CF CW;unfold cfv at CT CO0 CH
 go_enter Tryz.func36,Tryz.ntmps36
 unfold cfCells at hW1
 go_upto_region 1 with (fail)
 rw [<-hW1,<-hW0];clear hW1 hW0;obtain⟨_,c0,c1,c2,c3,c4,c5,c6,c7,c8,_⟩:=(BC.out.below BW.out).below HB0.out;obtain⟨_,q0,q1,q2,q3,q4,q5,_⟩:=(BX.out.below BW.out).below HB0.out
 go_wp2_with fail
 refine (CM0.out _ (BB.out.trans ((BW.out.trans (HB0.out.mono BW.out.size)).mono BB.out.size))).mono ?_;rintro e w1 ⟨rfl,hb⟩;have HB1:=aq (HB0.out.trans (hb.mono HB0.out.size));clear hb c0 c1 c2 c3 c4 c5 c6 c7 c8 q0 q1 q2 q3 q4 q5;obtain⟨_,c0,c1,c2,c3,c4,c5,c6,c7,c8,_⟩:=(BC.out.below BW.out).below HB1.out;obtain⟨_,q0,q1,q2,q3,q4,q5,_⟩:=(BX.out.below BW.out).below HB1.out
 go_wp2_with fail
 refine (CO0.out _ (BB.out.trans ((BW.out.trans (HB1.out.mono BW.out.size)).mono BB.out.size))).mono ?_;rintro e w2 ⟨rfl,hb⟩;have HB2:=aq (HB1.out.trans (hb.mono HB1.out.size));clear hb c0 c1 c2 c3 c4 c5 c6 c7 c8 q0 q1 q2 q3 q4 q5;obtain⟨_,c0,c1,c2,c3,c4,c5,c6,c7,c8,_⟩:=(BC.out.below BW.out).below HB2.out;obtain⟨_,q0,q1,q2,q3,q4,q5,_⟩:=(BX.out.below BW.out).below HB2.out
 go_wp2_with fail
 refine (CH.out _).mono ?_;rintro e w3 ⟨rfl,hb⟩;have HB3:=aq (HB2.out.trans (hb.mono HB2.out.size));clear hb c0 c1 c2 c3 c4 c5 c6 c7 c8 q0 q1 q2 q3 q4 q5
 go_upto_region 4 with (fail)
 have q3:=(BW.out.trans (HB3.out.mono BW.out.size)).drew;refine wp_region_held_drew (S:=(fun w'=>(w'.cell? ⟨w.heap.size,0,none⟩=some (.int .u8 c.tag)/\w'.cell? ⟨w.heap.size,1,none⟩=some (.int .i64 c.most)/\w'.cell? ⟨w.heap.size,2,none⟩=some (.int .i64 c.seg)/\w'.cell? ⟨w.heap.size,3,none⟩=some (.int .i64 c.least)/\w'.cell? ⟨w.heap.size,4,none⟩=some (.int .i64 c.den)/\w'.cell? ⟨w.heap.size,5,none⟩=some (.int .i64 c.ll)/\w'.cell? ⟨w.heap.size,6,none⟩=some (.int .i64 c.rl)/\w'.cell? ⟨w.heap.size,7,none⟩=some (.int .i64 c.rh)/\w'.cell? ⟨w.heap.size,8,none⟩=some (.int .i64 c.lh)/\w'.cell? ⟨w.heap.size+1,0,none⟩=some (.int .i64 s.seg)/\w'.cell? ⟨w.heap.size+1,1,none⟩=some (.slice a.w s.words.length a.cw)/\w'.cell? ⟨w.heap.size+1,2,none⟩=some (.slice a.k s.keys.length a.ck)/\w'.cell? ⟨w.heap.size+1,3,none⟩=some (.slice a.v s.vals.length a.cv)/\w'.cell? ⟨w.heap.size+1,4,none⟩=some (.slice a.c s.counts.length a.cc)/\w'.cell? ⟨w.heap.size+1,5,none⟩=some (.int .u64 (s.laid:Int))/\w'.cell? ⟨w.heap.size+1+1,0,none⟩=some (.int .i64 p1)/\w'.cell? ⟨w.heap.size+1+1,1,none⟩=some (.int .i64 p2))/\Hid (Below W1.heap.size W1 w'))) (by kernel_rfl) (⟨boxes3r (BC.out.below (q3)) (BX.out.below (q3)) (BP.out.below (q3)),aq (q3)⟩) (fun hHeld=>?_);refine tk 0 ?_;refine tk 1 ?_;refine tk 2 ?_;refine tk 3 ?_;refine tk 5 ?_;refine tk 6 ?_;refine rdH 4 fun K hK=>?_;go_simp;refine (CF.out _ (BB.out.trans (hHeld.2.out.mono BB.out.size))).mono ?_
 rintro e w5 ⟨v,rfl,hr5,hb5⟩;obtain⟨A5,d5,rfl,CA⟩:=r8AmongAny L kk (p1,p2) w5 hr5 hkL hnL;unfold pv at CA
 dsimp only at CA
 go_simp;refine hK.out _ _ (by have q:=hHeld.2.out.trans (hb5.mono hHeld.2.out.size);exact⟨boxes3r (BC.out.below q) (BX.out.below q) (BP.out.below q),aq q⟩) (fun hHelda1=>?_);clear hK K hHeld
 try simp only [sZ]
 refine rdH 7 fun K hK=>?_;go_simp;refine (CA _ (Below.refl _ _)).mono ?_;rintro e w6 ⟨A6,d6,rfl,hp6,hb6⟩;clear CA hr5;go_simp;refine hK.out _ _ (by have q:=hHelda1.2.out.trans (hb6.mono hHelda1.2.out.size);exact⟨boxes3r (BC.out.below q) (BX.out.below q) (BP.out.below q),aq q⟩) (fun hHelda2=>?_);clear hK K hHelda1
 try simp only [sZ]
 refine tk 8 ?_;refine wpAnyH_done (by kernel_rfl) ?_ _;have HB6:=aq (HB3.out.drew.trans ((hb5.trans (hb6.mono hb5.size)).mono HB3.out.drew.size));rw [<-HM.out] at hp6 ⊢;have HP6:=aq hp6;have q6:=hHelda2.2.out.drew;clear hb5 hb6 hp6 hHelda2 q3
 go_upto_region 5 with (fail)
 refine wp_region_held_drew (S:=(fun w'=>(w'.cell? ⟨w.heap.size,0,none⟩=some (.int .u8 c.tag)/\w'.cell? ⟨w.heap.size,1,none⟩=some (.int .i64 c.most)/\w'.cell? ⟨w.heap.size,2,none⟩=some (.int .i64 c.seg)/\w'.cell? ⟨w.heap.size,3,none⟩=some (.int .i64 c.least)/\w'.cell? ⟨w.heap.size,4,none⟩=some (.int .i64 c.den)/\w'.cell? ⟨w.heap.size,5,none⟩=some (.int .i64 c.ll)/\w'.cell? ⟨w.heap.size,6,none⟩=some (.int .i64 c.rl)/\w'.cell? ⟨w.heap.size,7,none⟩=some (.int .i64 c.rh)/\w'.cell? ⟨w.heap.size,8,none⟩=some (.int .i64 c.lh)/\w'.cell? ⟨w.heap.size+1,0,none⟩=some (.int .i64 s.seg)/\w'.cell? ⟨w.heap.size+1,1,none⟩=some (.slice a.w s.words.length a.cw)/\w'.cell? ⟨w.heap.size+1,2,none⟩=some (.slice a.k s.keys.length a.ck)/\w'.cell? ⟨w.heap.size+1,3,none⟩=some (.slice a.v s.vals.length a.cv)/\w'.cell? ⟨w.heap.size+1,4,none⟩=some (.slice a.c s.counts.length a.cc)/\w'.cell? ⟨w.heap.size+1,5,none⟩=some (.int .u64 (s.laid:Int))/\w'.cell? ⟨w.heap.size+1+1,0,none⟩=some (.int .i64 p1)/\w'.cell? ⟨w.heap.size+1+1,1,none⟩=some (.int .i64 p2))/\Hid (Below W1.heap.size W1 w'))) (by kernel_rfl) (⟨boxes3r (BC.out.below (q6)) (BX.out.below (q6)) (BP.out.below (q6)),aq (q6)⟩) (fun hHeld=>?_);refine tk 0 ?_;refine tk 1 ?_;refine tk 2 ?_;refine tk 3 ?_;refine tk 5 ?_;refine rdH 4 fun K hK=>?_;go_simp;refine (CT.out _).mono ?_;rintro e w7 ⟨rfl,hb7⟩;go_simp;refine hK.out _ _ (by have q:=hHeld.2.out.trans (hb7.mono hHeld.2.out.size);exact⟨boxes3r (BC.out.below q) (BX.out.below q) (BP.out.below q),aq q⟩) (fun hHeldb1=>?_)
 clear hK K hHeld
 try simp only [sZ]
 refine rdH 6 fun K hK=>?_;go_simp;have HB7:=aq (HB6.out.drew.trans (hb7.mono HB6.out.drew.size));have HP7:=aq (HP6.out.below (((Below.refl _ _).drew).trans hb7));refine (CW.out _ _ _ HP7.out).mono ?_;rintro e w8 ⟨a8,rfl,own,sep,lies,hb8⟩
 try unfold slv
 go_simp;refine hK.out _ _ (by have q:=hHeldb1.2.out.trans (hb8.mono hHeldb1.2.out.size);exact⟨boxes3r (BC.out.below q) (BX.out.below q) (BP.out.below q),aq q⟩) (fun hHeldb2=>?_);clear hK K hHeldb1
 try simp only [sZ]
 refine rdH 7 fun K hK=>?_;obtain⟨_,s0,s1,s2,s3,s4,s5,sf⟩:=(BR.out.below HB7.out).below hb8;have⟨sf0,sf1,sf2,sf3,sf4,sf5⟩:=sf6 sf;go_simp;have FIN:=aq (put6_fin (r:=w.heap.size+1+1+1) own sep lies (BB.out.trans (hHeldb2.2.out.mono BB.out.size)) (BR.out.below HB7.out).lt (by omega));have bf:=below_put6 (g:=w.heap.size+1+1+1) hHeldb2.2.out (Nat.le_of_eq ZZ.out) (.int .i64 t.seg) (.slice a8.w t.words.length a8.cw) (.slice a8.k t.keys.length a8.ck) (.slice a8.v t.vals.length a8.cv) (.slice a8.c t.counts.length a8.cc) (.int .u64 (t.laid:Int));refine hK.out _ _ (⟨boxes3r (BC.out.below (bf)) (BX.out.below (bf)) (BP.out.below (bf)),aq (bf)⟩) (fun hHeldb3=>?_);clear hK K hHeldb2
 try simp only [sZ]
 refine wpAnyH_done (by kernel_rfl) ?_ _;clear hHeldb3;go_wp2;refine bodyPost_ret (v:=slv t a8) (by simp [results,Tryz.results36,go_sem,slv,s0,s1,s2,s3,s4,s5,sf0,sf1,sf2,sf3,sf4,sf5]) rfl ?_;exact⟨_,rfl,FIN.out _ _ _ _ _ _⟩
end Go.Proofs.YthaaapfnheocjaaGreatDoor
