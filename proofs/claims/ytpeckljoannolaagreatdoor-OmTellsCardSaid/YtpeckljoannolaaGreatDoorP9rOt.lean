/- What the document's own answers of layer 9 return. -/
import Derived.Test.YtpeckljoannolaaGreatDoorP09Ot
import Derived.Test.YtpeckljoannolaaGreatDoorM11Ot
import Derived.Test.YtpeckljoannolaaGreatDoorM01Ot
import Derived.Test.YtpeckljoannolaaGreatDoorP5rOt
import Derived.Test.YtpeckljoannolaaGreatDoorP05Ot
import Derived.Test.YtpeckljoannolaaGreatDoorR01Ot
import Derived.Test.YtpeckljoannolaaGreatDoorTkOt
import Derived.OrdersHeld
import Derived.Deep.RegionHeld
set_option linter.unusedVariables false
set_option linter.unusedSimpArgs false
set_option maxHeartbeats 4000000
set_option maxRecDepth 100000
namespace Go.Proofs.YtpeckljoannolaaGreatDoor
open Go.RowKit
namespace Gp
theorem cnt_sum {s:Sl} (h:s.May) {i j:Nat} (hij:i<=j) (hj:j<=s.counts.length):sumTo s.counts j-sumTo s.counts i=cnt s ((i:Int)*s.seg) ((j:Int)*s.seg):=by
 have g0:=h.seg1
 have e1:((i:Int)*s.seg).toNat=i*s.seg.toNat:=by
  have:(i:Int)*s.seg=((i*s.seg.toNat:Nat):Int):=by rw [Int.natCast_mul,Int.toNat_of_nonneg (by omega)]
  rw [this,Int.toNat_natCast]
 have e2:((j:Int)*s.seg).toNat=j*s.seg.toNat:=by
  have:(j:Int)*s.seg=((j*s.seg.toNat:Nat):Int):=by rw [Int.natCast_mul,Int.toNat_of_nonneg (by omega)]
  rw [this,Int.toNat_natCast]
 have hm:=Nat.mul_le_mul_right s.seg.toNat hij;rw [sum_counts h j hj,sum_counts h i (by omega)];unfold cnt;rw [e1,e2,Oc.places_split s.words 0 (i*s.seg.toNat) (j*s.seg.toNat) (by omega) hm,List.length_append]
 omega
theorem sum_bd {s:Sl} (h:s.May) {k:Nat} (hk:k<=s.counts.length):0<=sumTo s.counts k/\sumTo s.counts k<=65536:=by
 have e:=sum_counts h k hk;have l:=Oc.places_length_le s.words 0 (k*s.seg.toNat);have l2:=Nat.mul_le_mul_right s.seg.toNat hk;have w:=h.whole;have m:=h.many
 omega
theorem sum_mono {s:Sl} (h:s.May) {i j:Nat} (hij:i<=j) (hj:j<=s.counts.length):sumTo s.counts i<=sumTo s.counts j:=by
 have:=cnt_sum h hij hj;have:=cnt_nn s ((i:Int)*s.seg) ((j:Int)*s.seg)
 omega
end Gp
theorem r9Among (s:Sl) (a:Ads) (i j:Nat) (lo hi:Int) (w:World) (h:Held w s a) (hs:s.Short) (hm:s.May) (hij:i<=j) (hj:j<=s.counts.length) (hlo:lo=(i:Int)*s.seg) (hhi:hi=(j:Int)*s.seg) :
  Calls Tryz.prog 143 #[slv s a,.int .i64 lo,.int .i64 hi] w fun e w'=>e=.returned (.int .i64 (Gp.cnt s lo hi))/\Below w.heap.size w w':=by
 have E:=aq (show Gp.cnt s lo hi=sumTo s.counts j-sumTo s.counts i by rw [hlo,hhi];exact (Gp.cnt_sum hm hij hj).symm);have SB:=aq (fun k (hk:k<=s.counts.length)=>Gp.sum_bd hm hk);have SM:=aq (fun k (hk:i<=k) (hk2:k<=s.counts.length)=>Gp.sum_mono hm hk hk2);obtain⟨W0,hW0⟩:∃ W0,W0=w.alloc (.cells (slCells s a) 29):=⟨_,rfl⟩;have BX:=aq (show Box W0 w.heap.size s a by rw [hW0];exact Box.new w s a 29);have BB:=aq (show Below w.heap.size w W0 by rw [hW0];exact (Below.refl w.heap.size w).alloc (Nat.le_refl _) _);have HL:=aq (show Lst .i64 W0 a.c s.counts by rw [hW0];exact (h.alloc _).counts);have l4:=hs.counts;have g1:=hm.seg1;have g2:=hm.seg2
 have k0:¬ s.seg=0:=by omega
 have k1:(0:Int)<=s.seg:=by omega
 have D1:=aq (show lo/s.seg=(i:Int) by rw [hlo];exact Int.mul_ediv_cancel _ k0);have D2:=aq (show hi/s.seg=(j:Int) by rw [hhi];exact Int.mul_ediv_cancel _ k0)
 have p0:0<=lo:=by rw [hlo];exact Int.mul_nonneg (by omega) k1
 have p1:0<=hi:=by rw [hhi];exact Int.mul_nonneg (by omega) k1
 rw [E.out];clear h hs hm hlo hhi E;unfold slv
 go_enter Tryz.func143,Tryz.ntmps143
 unfold slCells at hW0
 go_upto_region 1 with (fail)
 rw [<-hW0];clear hW0;obtain⟨_,q0,q1,q2,q3,q4,q5,_⟩:=BX.out
 have e1:lo.tdiv s.seg=(i:Int):=by rw [Int.tdiv_eq_ediv_of_nonneg p0];exact D1.out
 have e2:hi.tdiv s.seg=(j:Int):=by rw [Int.tdiv_eq_ediv_of_nonneg p1];exact D2.out
 have e3:IntKind.i64.wrap (i:Int)=(i:Int):=IntWalk.i64_in _ (by omega);have e4:IntKind.i64.wrap (j:Int)=(j:Int):=IntWalk.i64_in _ (by omega);have e5:=D1.out;have e6:=D2.out;go_wp2
 go_loop [7,8] (fun n m=>∃ k:Nat,i<=k/\k<=j/\n=.int .i64 (sumTo s.counts k-sumTo s.counts i)/\m=.int .i64 (k:Int)) (fun _ m=>j-(intOf m).toNat)
 case atStart=>exact⟨i,Nat.le_refl _,hij,by rw [Int.sub_self],rfl⟩
 case round =>
  obtain⟨k,hk1,hk2,rfl,rfl⟩:=hrel
  by_cases hlt:k < j
  ·obtain⟨b,off,hb,_,ck⟩:=HL.out.cell (show k < s.counts.length by omega)
   have i0:(0:Int)<=(k:Int):=by omega
   have i1:(k:Int) < (s.counts.length:Int):=by omega
   have S1:=SB.out (k+1) (by omega);have S2:=SM.out k hk1 (by omega);have S3:=SM.out (k+1) (by omega) (by omega);have S4:=SB.out i (by omega);have HS:=aq (show sumTo s.counts (k+1)=sumTo s.counts k+s.counts.getD k 0 from rfl);obtain⟨z,hz⟩:∃ z,s.counts.getD k 0=z:=⟨_,rfl⟩;obtain⟨A,hA⟩:∃ A,sumTo s.counts k=A:=⟨_,rfl⟩;obtain⟨B,hB⟩:∃ B,sumTo s.counts i=B:=⟨_,rfl⟩;rw [hz] at HS ck;rw [hA] at HS S2;rw [hB] at S2 S3 S4;have hs1:=HS.out;rw [hs1] at S1 S3;have y1:IntKind.i64.wrap (A-B+z)=A-B+z:=IntWalk.i64_in _ (by omega);rw [hb] at q4;rw [hA,hB];clear hz hs1 S1 S2 S3 S4 hb;go_wp2
   go_round
   case rel=>exact⟨k+1,by omega,by omega,by rw [HS.out];congr 1;omega,by go_num⟩
   case measure=>simp [intOf];omega
  ·have hkk:k=j:=by omega
   subst hkk;go_wp2;go_ret;exact⟨rfl,BB.out⟩
theorem r9Many (s:Sl) (a:Ads) (w:World) (h:Held w s a) (hs:s.Short) (hm:s.May) :
  Calls Tryz.prog 101 #[slv s a] w fun e w'=>e=.returned (.int .i64 (Gp.many s))/\Below w.heap.size w w':=by
 have BX:=aq (Box.new w s a 29);have BB:=aq (fun o=>(Below.refl w.heap.size w).alloc (Nat.le_refl _) o);have g1:=hm.seg1
 have CA:=aq (fun o=>r9Among s a 0 s.counts.length 0 (s.keys.length:Int) (w.alloc o) (h.alloc o) hs hm (Nat.zero_le _) (Nat.le_refl _) (by simp) (by
  have:=hm.whole
  rw [<-this,Int.natCast_mul,Int.toNat_of_nonneg (by omega)]))
 clear h hs hm;unfold Gp.many;unfold slv at CA ⊢
 go_enter Tryz.func101,Tryz.ntmps101
 obtain⟨_,q0,q1,q2,q3,q4,q5,_⟩:=BX.out;unfold slCells at q0 q1 q2 q3 q4 q5
 go_wp2_with fail
 refine (CA.out _).mono ?_;rintro e w1 ⟨rfl,hb⟩;go_wp2;go_ret;exact⟨rfl,(BB.out _).trans (hb.mono (BB.out _).size)⟩
namespace Gp
theorem row_fill {c:Cf} {s:Sl} {H:Nat} (K:Cap c s.keys.length H) {h:Nat} (hh:h<=H):(rowN c s h:Int)*c.wide h=s.keys.length/\rowN c s h=2^(H-h):=by
 have w:=K.wpos h;have e:=K.top;rw [Cap.wide_up c hh] at e;have p:(0:Int) < 2^(H-h):=Fr.pow_pos _
 have q:(s.keys.length:Int)/c.wide h=2^(H-h):=by rw [<-e];exact Int.mul_ediv_cancel_left _ (by omega)
 have r:(rowN c s h:Int)=2^(H-h):=by unfold rowN;rw [q];exact Int.toNat_of_nonneg (by omega)
 refine⟨by rw [r,Int.mul_comm];exact e,?_⟩
 have:((2^(H-h):Nat):Int)=2^(H-h):=by simp
 omega
theorem win_segs {c:Cf} {s:Sl} {H:Nat} (K:Cap c s.keys.length H) (hm:s.May) (hsg:s.seg=c.seg) {h q:Nat} (hh:h<=H) (hq:q < rowN c s h) :
  (q+1)*2^h<=s.counts.length/\(q:Int)*c.wide h=((q*2^h:Nat):Int)*s.seg/\(q:Int)*c.wide h+c.wide h=(((q+1)*2^h:Nat):Int)*s.seg:=by
 obtain⟨f1,f2⟩:=row_fill K hh
 have cl:s.counts.length=2^H:=by
  have e:=K.top;have g:=hm.seg1
  have d:(s.keys.length:Int)/s.seg=2^H:=by
   rw [<-e]
   show c.seg*2^H/_=_
   rw [<-hsg];exact Int.mul_ediv_cancel_left _ (by omega)
  have:=hm.clen;rw [d] at this
  have e2:((2^H:Nat):Int)=2^H:=by simp
  omega
 have wd:c.wide h=s.seg*2^h:=by rw [hsg];rfl
 refine⟨?_,?_,?_⟩
 ·rw [cl]
  have:2^H=2^(H-h)*2^h:=by rw [<-Nat.pow_add];congr 1;omega
  rw [this];exact Nat.mul_le_mul_right _ (by omega)
 ·rw [wd,Int.natCast_mul,Int.mul_comm s.seg,<-Int.mul_assoc];simp
 ·rw [wd,Int.natCast_mul,Int.mul_comm s.seg,<-Int.mul_assoc,<-Int.add_mul]
  congr 1
  simp [Int.add_mul]
end Gp
theorem r9dense (c:Cf) (s:Sl) (a:Ads) (H:Nat) (w:World) (h:Held w s a) (hs:s.Short) (hm:s.May) (K:Gp.Cap c s.keys.length H) (hsg:s.seg=c.seg) :
  Calls Tryz.prog 141 #[cfv c,slv s a] w fun e w'=>e=.returned (.bool (Gp.denseB c s (H+1)))/\Below w.heap.size w w':=by
 have l2:=hs.keys;have g1:=K.fit.g1;have g2:=hm.seg2;rw [hsg] at g2;have h14:=K.fit.h14
 have sz:c.seg<=(s.keys.length:Int):=by
  have e:=K.wide_le (Nat.zero_le H)
  have:c.wide ((0:Nat):Int)=c.seg:=by show c.seg*2^0=_;simp
  omega
 obtain⟨W0,hW0⟩:∃ W0,W0=(w.alloc (.cells (cfCells c) 23)).alloc (.cells #[.int .i64 s.seg,.slice a.w s.words.length a.cw,.slice a.k s.keys.length a.ck,.slice a.v s.vals.length a.cv,.slice a.c s.counts.length a.cc,.int .u64 (s.laid:Int)] 29):=⟨_,rfl⟩;have BB:=aq (show Below w.heap.size w W0 by rw [hW0];exact ((Below.refl w.heap.size w).alloc (Nat.le_refl _) _).alloc (by simp) _);have BC:=aq (show CBox W0 w.heap.size c by rw [hW0];exact (CBox.new w c 23).below ((Below.refl _ _).alloc (Nat.le_refl _) _));have BX:=aq (show Box W0 (w.heap.size+1) s a by rw [hW0];exact Box.second w _ s a 29);have CH:=aq (fun W=>r5Height c s.keys.length W g1 sz (by omega));rw [K.high] at CH;have CW:=aq (fun (k:Nat) W (hk:k<=H)=>r5Wide c k W g1 g2 (by omega) (by omega));have CA:=aq (fun (k q:Nat) W (hb:Below w.heap.size w W) (hk:k<=H) (hq:q < Gp.rowN c s k)=>r9Among s a (q*2^k) ((q+1)*2^k) ((q:Int)*c.wide k) ((q:Int)*c.wide k+c.wide k) W (h.below hb) hs hm (Nat.mul_le_mul_right _ (by omega)) (Gp.win_segs K hm hsg hk hq).1 (Gp.win_segs K hm hsg hk hq).2.1 (Gp.win_segs K hm hsg hk hq).2.2);have CN:=aq (fun (k:Nat) (n:Int) W (hk:k<=H) (n0:0<=n) (n1:n<=c.wide k)=>r5NotMany c s.keys.length k n W (K.ok hk n0 n1));have CF:=aq (fun (k:Nat) (n:Int) W (hk:k<=H) (n0:0<=n) (n1:n<=c.wide k)=>r5NotFew c s.keys.length k n W (K.ok hk n0 n1));have RN:=aq (fun (k:Nat) (hk:k<=H)=>(Gp.row_fill K hk).1)
 have WP:=aq (fun (k:Nat)=>K.wpos k);have WL:=aq (fun (k:Nat) (hk:k<=H)=>K.wide_le hk);have DB:=aq (show Gp.denseB c s (H+1)=(List.range (H+1)).all (fun h=>Gp.rowB c s h (Gp.rowN c s h)) from rfl);rw [DB.out];clear h hs hm K hsg DB sz g1 g2;unfold cfv at CH CW CN CF;unfold slv at CA;unfold slv cfv
 go_enter Tryz.func141,Tryz.ntmps141
 unfold cfCells at hW0
 go_upto_region 1 with (fail)
 rw [<-hW0];clear hW0;obtain⟨_,c0,c1,c2,c3,c4,c5,c6,c7,c8,_⟩:=BC.out;obtain⟨_,q0,q1,q2,q3,q4,q5,_⟩:=BX.out;go_wp2
 go_loopw [6] (fun i wr=>∃ k:Nat,k<=H+1/\i=.int .i64 (k:Int)/\(∀ h:Nat,h < k->Gp.rowB c s h (Gp.rowN c s h)=true)/\Below W0.heap.size W0 wr) (fun i _=>H+1-(intOf i).toNat)
 case atStart=>exact⟨0,Nat.zero_le _,rfl,fun h hh=>absurd hh (Nat.not_lt_zero _),Below.refl _ _⟩
 case round =>
  obtain⟨k,hk,rfl,hl,hbr⟩:=hrel;have HL:=aq hl;have HB:=aq hbr;clear hl hbr c0 c1 c2 c3 c4 c5 c6 c7 c8 q0 q1 q2 q3 q4 q5;obtain⟨_,c0,c1,c2,c3,c4,c5,c6,c7,c8,_⟩:=BC.out.below HB.out;have zz:=HB.out.size
  by_cases hlt:k<=H
  ·have CW1:=aq (fun W=>CW.out k W hlt)
   have CA1:=aq (fun q W hb hq=>CA.out k q W hb hlt hq);have CN1:=aq (fun n W n0 n1=>CN.out k n W hlt n0 n1);have CF1:=aq (fun n W n0 n1=>CF.out k n W hlt n0 n1);have RN1:=aq (RN.out k hlt);have wp:=WP.out k;have wl:=WL.out k hlt;have RB:=aq (fun q=>(show Gp.rightB c s k q=(c.manyB s.keys.length k (Gp.cnt s ((q:Int)*c.wide k) ((q:Int)*c.wide k+c.wide k))&&c.fewB s.keys.length k (Gp.cnt s ((q:Int)*c.wide k) ((q:Int)*c.wide k+c.wide k))) from rfl));obtain⟨X,hX⟩:∃ X,c.wide k=X:=⟨_,rfl⟩;obtain⟨R,hR⟩:∃ R,Gp.rowN c s k=R:=⟨_,rfl⟩;rw [hX] at CW1 CA1 CN1 CF1 RN1 RB wp wl;rw [hR] at CA1 RN1;have RW:=aq (show Gp.rowB c s k (Gp.rowN c s k)=(List.range R).all (Gp.rightB c s k) by rw [<-hR];rfl)
   go_wp2_with fail
   refine (CH.out _).mono ?_;rintro e w3 ⟨rfl,hb3⟩;have B3:=aq (HB.out.trans (hb3.mono zz));clear hb3 c0 c1 c2 c3 c4 c5 c6 c7 c8;obtain⟨_,c0,c1,c2,c3,c4,c5,c6,c7,c8,_⟩:=BC.out.below B3.out
   go_wp2_with fail
   refine (CW1.out _).mono ?_;rintro e w4 ⟨rfl,hb4⟩;have B4:=aq (B3.out.trans (hb4.mono B3.out.size));clear hb4 c0 c1 c2 c3 c4 c5 c6 c7 c8;have zz4:=B4.out.size;clear hX hR;go_wp2
   go_loopw [8] (fun i wr2=>∃ q:Nat,q<=R/\i=.int .i64 ((q:Int)*X)/\(∀ r:Nat,r < q->Gp.rightB c s k r=true)/\Below w4.heap.size w4 wr2) (fun i _=>s.keys.length-(intOf i).toNat)
   case atStart=>exact⟨0,Nat.zero_le _,by simp,fun h hh=>absurd hh (Nat.not_lt_zero _),Below.refl _ _⟩
   case round =>
    obtain⟨q,hq,rfl,hl2,hbr2⟩:=hrel;have HL2:=aq hl2;have HB2:=aq hbr2;clear hl2 hbr2;obtain⟨_,c0,c1,c2,c3,c4,c5,c6,c7,c8,_⟩:=(BC.out.below B4.out).below HB2.out;obtain⟨_,q0,q1,q2,q3,q4,q5,_⟩:=(BX.out.below B4.out).below HB2.out;have zz5:=HB2.out.size;have p0:0<=(q:Int)*X:=Int.mul_nonneg (by omega) (by omega);have FL:=RN1.out
    by_cases hql:q < R
    ·have p1:(q:Int)*X+X<=(R:Int)*X:=by
      have:=Int.mul_le_mul_of_nonneg_right (show (q:Int)+1<=(R:Int) by omega) (show 0<=X by omega);rw [Int.add_mul,Int.one_mul] at this;exact this
     have CA2:=aq (CA1.out q wr (BB.out.trans ((B4.out.trans (HB2.out.mono zz4)).mono BB.out.size)) hql);have RB1:=aq (RB.out q);have NX:=aq (show (((q+1:Nat):Int))*X=(q:Int)*X+X by rw [Int.natCast_add,Int.add_mul];simp);obtain⟨P,hP⟩:∃ P,(q:Int)*X=P:=⟨_,rfl⟩;rw [hP] at CA2 RB1 NX p0 p1;rw [hP];rw [FL] at p1;have y1:IntKind.i64.wrap (P+X)=P+X:=IntWalk.i64_in _ (by omega);have N0:=Gp.cnt_nn s P (P+X);have N1:=Gp.cnt_le s p0 (show P<=P+X by omega);obtain⟨M,hM⟩:∃ M,Gp.cnt s P (P+X)=M:=⟨_,rfl⟩;rw [hM] at CA2 RB1 N0 N1
     have N2:M<=X:=by omega
     clear hP hM FL N1;have CN2:=aq (fun W=>CN1.out M W N0 N2);have CF2:=aq (fun W=>CF1.out M W N0 N2)
     go_wp2_with fail
     refine CA2.out.mono ?_;rintro e w5 ⟨rfl,hb5⟩;have B5:=aq (HB2.out.trans (hb5.mono zz5));clear hb5 c0 c1 c2 c3 c4 c5 c6 c7 c8 q0 q1 q2 q3 q4 q5;obtain⟨_,c0,c1,c2,c3,c4,c5,c6,c7,c8,_⟩:=(BC.out.below B4.out).below B5.out
     cases hm1:c.manyB s.keys.length k M
     ·have RF:=aq (show (List.range (H+1)).all (fun h=>Gp.rowB c s h (Gp.rowN c s h))=false from all_range_false (show k < H+1 by omega) (by rw [RW.out];exact all_range_false hql (by rw [RB1.out,hm1];rfl)))
      rw [hm1] at CN2;clear hm1
      go_wp2_with fail
      refine (CN2.out _).mono ?_;rintro e w6 ⟨rfl,hb6⟩;have B6:=aq (B5.out.trans (hb6.mono B5.out.size));clear hb6 c0 c1 c2 c3 c4 c5 c6 c7 c8;go_wp2;go_ret;exact⟨by rw [RF.out];rfl,BB.out.trans ((B4.out.trans (B6.out.mono zz4)).mono BB.out.size)⟩
     ·rw [hm1] at CN2 RB1
      clear hm1
      go_wp2_with fail
      refine (CN2.out _).mono ?_;rintro e w6 ⟨rfl,hb6⟩;have B6:=aq (B5.out.trans (hb6.mono B5.out.size));clear hb6 c0 c1 c2 c3 c4 c5 c6 c7 c8 CN2;obtain⟨_,c0,c1,c2,c3,c4,c5,c6,c7,c8,_⟩:=(BC.out.below B4.out).below B6.out
      cases hf1:c.fewB s.keys.length k M
      ·have RF:=aq (show (List.range (H+1)).all (fun h=>Gp.rowB c s h (Gp.rowN c s h))=false from all_range_false (show k < H+1 by omega) (by rw [RW.out];exact all_range_false hql (by rw [RB1.out,hf1];rfl)))
       rw [hf1] at CF2;clear hf1
       go_wp2_with fail
       refine (CF2.out _).mono ?_;rintro e w7 ⟨rfl,hb7⟩;have B7:=aq (B6.out.trans (hb7.mono B6.out.size));clear hb7 c0 c1 c2 c3 c4 c5 c6 c7 c8;go_wp2;go_ret;exact⟨by rw [RF.out];rfl,BB.out.trans ((B4.out.trans (B7.out.mono zz4)).mono BB.out.size)⟩
      ·rw [hf1] at CF2 RB1
       clear hf1
       go_wp2_with fail
       refine (CF2.out _).mono ?_;rintro e w7 ⟨rfl,hb7⟩;have B7:=aq (B6.out.trans (hb7.mono B6.out.size));clear hb7 c0 c1 c2 c3 c4 c5 c6 c7 c8;go_wp2
       go_roundw
       case rel=>exact⟨q+1,by omega,by rw [NX.out],fun r hr=>by
        by_cases hrq:r < q
        ·exact HL2.out r hrq
        ·have:r=q:=by omega
         rw [this,RB1.out];rfl,B7.out⟩
       case measure=>simp [intOf];omega
    ·have hqq:q=R:=by omega
     subst hqq;rw [FL]
     have RY:=aq (show Gp.rowB c s k (Gp.rowN c s k)=true by
      rw [RW.out,List.all_eq_true]
      exact fun r hr=>HL2.out r (List.mem_range.1 hr))
     clear FL p0 hql hq c0 c1 c2 c3 c4 c5 c6 c7 c8 q0 q1 q2 q3 q4 q5;go_wp2
     go_roundw
     case rel=>exact⟨k+1,by omega,by go_num,fun h hh=>by
      by_cases hhk:h < k
      ·exact HL.out h hhk
      ·have:h=k:=by omega
       rw [this];exact RY.out,B4.out.trans (HB2.out.mono zz4)⟩
     case measure=>simp [intOf];omega
  ·have hkk:k=H+1:=by omega
   subst hkk
   have AY:=aq (show (List.range (H+1)).all (fun h=>Gp.rowB c s h (Gp.rowN c s h))=true by
    rw [List.all_eq_true]
    exact fun h hh=>HL.out h (List.mem_range.1 hh))
   have nk:¬ (((H+1:Nat):Int)<=(H:Int)):=by omega
   go_wp2_with fail
   refine (CH.out _).mono ?_;rintro e w3 ⟨rfl,hb3⟩;have B3:=aq (HB.out.trans (hb3.mono zz));clear hb3 c0 c1 c2 c3 c4 c5 c6 c7 c8;go_wp2;go_ret;exact⟨by rw [AY.out];rfl,BB.out.trans (B3.out.mono BB.out.size)⟩
theorem boxes2r {W:World} {g g':Nat} {c:Cf} {s:Sl} {a:Ads} (C:CBox W g c) (X:Box W g' s a):W.cell? ⟨g,0,none⟩=some (.int .u8 c.tag)/\W.cell? ⟨g,1,none⟩=some (.int .i64 c.most)/\W.cell? ⟨g,2,none⟩=some (.int .i64 c.seg)/\W.cell? ⟨g,3,none⟩=some (.int .i64 c.least)/\W.cell? ⟨g,4,none⟩=some (.int .i64 c.den)/\W.cell? ⟨g,5,none⟩=some (.int .i64 c.ll)/\W.cell? ⟨g,6,none⟩=some (.int .i64 c.rl)/\W.cell? ⟨g,7,none⟩=some (.int .i64 c.rh)/\W.cell? ⟨g,8,none⟩=some (.int .i64 c.lh)/\W.cell? ⟨g',0,none⟩=some (.int .i64 s.seg)/\W.cell? ⟨g',1,none⟩=some (.slice a.w s.words.length a.cw)/\W.cell? ⟨g',2,none⟩=some (.slice a.k s.keys.length a.ck)/\W.cell? ⟨g',3,none⟩=some (.slice a.v s.vals.length a.cv)/\W.cell? ⟨g',4,none⟩=some (.slice a.c s.counts.length a.cc)/\W.cell? ⟨g',5,none⟩=some (.int .u64 (s.laid:Int)) :=
 ⟨C.c0,C.c1,C.c2,C.c3,C.c4,C.c5,C.c6,C.c7,C.c8,X.c0,X.c1,X.c2,X.c3,X.c4,X.c5⟩
namespace Gp
theorem own_way (c:Cf) (s:Sl):s.mayB=false/\ownB c s=false∨s.mayB=true/\((s.seg==c.seg)=false/\ownB c s=false∨(s.seg==c.seg)=true/\(c.isB s.keys.length=false/\ownB c s=false ∨
  c.isB s.keys.length=true/\(decide (many s<=c.most)=false/\ownB c s=false∨decide (many s<=c.most)=true/\ownB c s=denseB c s (tall c s+1)))):=by
 unfold ownB
 cases s.mayB<;>cases (s.seg==c.seg)<;>cases c.isB s.keys.length<;>cases decide (many s<=c.most)<;>simp
end Gp
theorem r9denseT (c:Cf) (s:Sl) (a:Ads) (w:World) (hc:c.May) (hh:Held w s a) (hs:s.Short) (hm:s.mayB=true) (hg:(s.seg==c.seg)=true) (hi:c.isB s.keys.length=true) :
  Calls Tryz.prog 141 #[cfv c,slv s a] w fun e w'=>e=.returned (.bool (Gp.denseB c s (Gp.tall c s+1)))/\Below w.heap.size w w':=by
 obtain⟨H,K⟩:=Gp.cap_of hc ((Cf.is_iff c _).1 hi);have e:Gp.tall c s=H:=K.tall;rw [e];exact r9dense c s a H w hh hs (may_iff.1 hm) K (by simpa using hg)
theorem r9May (c:Cf) (s:Sl) (a:Ads) (w:World) (hc:c.May) (hh:Held w s a) (hok:s.Ok) (hs:s.Short) :
  Calls Tryz.prog 92 #[cfv c,slv s a] w fun e w'=>e=.returned (.bool (Gp.ownB c s))/\Below w.heap.size w w':=by
 obtain⟨W0,hW0⟩:∃ W0,W0=(w.alloc (.cells (cfCells c) 23)).alloc (.cells #[.int .i64 s.seg,.slice a.w s.words.length a.cw,.slice a.k s.keys.length a.ck,.slice a.v s.vals.length a.cv,.slice a.c s.counts.length a.cc,.int .u64 (s.laid:Int)] 29):=⟨_,rfl⟩;have BB:=aq (show Below w.heap.size w W0 by rw [hW0];exact ((Below.refl w.heap.size w).alloc (Nat.le_refl _) _).alloc (by simp) _);have BC:=aq (show CBox W0 w.heap.size c by rw [hW0];exact (CBox.new w c 23).below ((Below.refl _ _).alloc (Nat.le_refl _) _));have BX:=aq (show Box W0 (w.heap.size+1) s a by rw [hW0];exact Box.second w _ s a 29);have kl:=hs.keys;have CS:=aq (fun W (hb:Below w.heap.size w W)=>r4May s a W (hh.below hb) hok hs);have CI:=aq (fun W (hb:Below w.heap.size w W)=>r5Is c s.keys.length W hc (by omega));have CM0:=aq (fun (hm:s.mayB=true) W (hb:Below w.heap.size w W)=>r9Many s a W (hh.below hb) hs (may_iff.1 hm));have CD0:=aq (fun (hm:s.mayB=true) (hg:(s.seg==c.seg)=true) (hi:c.isB s.keys.length=true) W (hb:Below w.heap.size w W)=>r9denseT c s a W hc (hh.below hb) hs hm hg hi);have P:=Gp.own_way c s;clear hh hok hs hc;unfold slv cfv;unfold slv at CS CM0 CD0;unfold cfv at CI CD0
 rcases P with⟨p1,p2⟩ | ⟨p1,P⟩
 ·rw [p2]
  rw [p1] at CS;clear p1 p2 CM0 CD0 CI
  go_enter Tryz.func92,Tryz.ntmps92
  unfold cfCells at hW0
  go_upto_region 1 with (fail)
  rw [<-hW0];clear hW0;have dr:=(Below.refl W0.heap.size W0).drew;refine wp_region_held_drew (S:=(fun w'=>(w'.cell? ⟨w.heap.size,0,none⟩=some (.int .u8 c.tag)/\w'.cell? ⟨w.heap.size,1,none⟩=some (.int .i64 c.most)/\w'.cell? ⟨w.heap.size,2,none⟩=some (.int .i64 c.seg)/\w'.cell? ⟨w.heap.size,3,none⟩=some (.int .i64 c.least)/\w'.cell? ⟨w.heap.size,4,none⟩=some (.int .i64 c.den)/\w'.cell? ⟨w.heap.size,5,none⟩=some (.int .i64 c.ll)/\w'.cell? ⟨w.heap.size,6,none⟩=some (.int .i64 c.rl)/\w'.cell? ⟨w.heap.size,7,none⟩=some (.int .i64 c.rh)/\w'.cell? ⟨w.heap.size,8,none⟩=some (.int .i64 c.lh)/\w'.cell? ⟨w.heap.size+1,0,none⟩=some (.int .i64 s.seg)/\w'.cell? ⟨w.heap.size+1,1,none⟩=some (.slice a.w s.words.length a.cw)/\w'.cell? ⟨w.heap.size+1,2,none⟩=some (.slice a.k s.keys.length a.ck)/\w'.cell? ⟨w.heap.size+1,3,none⟩=some (.slice a.v s.vals.length a.cv)/\w'.cell? ⟨w.heap.size+1,4,none⟩=some (.slice a.c s.counts.length a.cc)/\w'.cell? ⟨w.heap.size+1,5,none⟩=some (.int .u64 (s.laid:Int)))/\Hid (Below W0.heap.size W0 w'))) (by kernel_rfl) (⟨boxes2r (BC.out.below dr) (BX.out.below dr),aq dr⟩) (fun hHeld=>?_);refine tk 0 ?_;refine rdH 1 fun K hK=>?_;go_simp;refine (CS.out _ (BB.out.trans (hHeld.2.out.mono BB.out.size))).mono ?_;rintro e w2 ⟨rfl,hb2⟩;go_simp;refine hK.out _ _ (by have q:=hHeld.2.out.trans (hb2.mono hHeld.2.out.size);exact⟨boxes2r (BC.out.below q) (BX.out.below q),aq q⟩) (fun hHelda1=>?_)
  clear hK K hHeld
  try simp only [sZ]
  refine tk 2 ?_;refine tk0 3 ?_;refine tk0 4 ?_;refine tk0 5 ?_;refine tk0 6 ?_;refine tk0 7 ?_;refine tk 8 ?_;refine tk 9 ?_;refine tk0 10 ?_;refine tk0 11 ?_;refine tk0 12 ?_;refine tk0 13 ?_;refine tk0 14 ?_;refine tk 15 ?_;refine tk 16 ?_;refine tk0 17 ?_;refine tk0 18 ?_;refine tk0 19 ?_;refine tk0 20 ?_;refine tk0 21 ?_;refine tk 22 ?_;refine tk 23 ?_;refine tk0 24 ?_;refine tk0 25 ?_;refine tk0 26 ?_;refine tk 27 ?_;refine tk 28 ?_;refine wpAnyH_done (by kernel_rfl) ?_ _;have q:=hHelda1.2.out;clear hHelda1;go_wp2;go_ret;exact⟨rfl,BB.out.trans (q.mono BB.out.size)⟩
 ·have CM:=aq (CM0.out p1)
  have CD1:=aq (CD0.out p1);rw [p1] at CS;clear p1 CM0 CD0
  rcases P with⟨p1,p2⟩ | ⟨p1,P⟩
  ·rw [p2]
   clear p2 CM CD1 CI
   go_enter Tryz.func92,Tryz.ntmps92
   unfold cfCells at hW0
   go_upto_region 1 with (fail)
   rw [<-hW0];clear hW0;have dr:=(Below.refl W0.heap.size W0).drew;refine wp_region_held_drew (S:=(fun w'=>(w'.cell? ⟨w.heap.size,0,none⟩=some (.int .u8 c.tag)/\w'.cell? ⟨w.heap.size,1,none⟩=some (.int .i64 c.most)/\w'.cell? ⟨w.heap.size,2,none⟩=some (.int .i64 c.seg)/\w'.cell? ⟨w.heap.size,3,none⟩=some (.int .i64 c.least)/\w'.cell? ⟨w.heap.size,4,none⟩=some (.int .i64 c.den)/\w'.cell? ⟨w.heap.size,5,none⟩=some (.int .i64 c.ll)/\w'.cell? ⟨w.heap.size,6,none⟩=some (.int .i64 c.rl)/\w'.cell? ⟨w.heap.size,7,none⟩=some (.int .i64 c.rh)/\w'.cell? ⟨w.heap.size,8,none⟩=some (.int .i64 c.lh)/\w'.cell? ⟨w.heap.size+1,0,none⟩=some (.int .i64 s.seg)/\w'.cell? ⟨w.heap.size+1,1,none⟩=some (.slice a.w s.words.length a.cw)/\w'.cell? ⟨w.heap.size+1,2,none⟩=some (.slice a.k s.keys.length a.ck)/\w'.cell? ⟨w.heap.size+1,3,none⟩=some (.slice a.v s.vals.length a.cv)/\w'.cell? ⟨w.heap.size+1,4,none⟩=some (.slice a.c s.counts.length a.cc)/\w'.cell? ⟨w.heap.size+1,5,none⟩=some (.int .u64 (s.laid:Int)))/\Hid (Below W0.heap.size W0 w'))) (by kernel_rfl) (⟨boxes2r (BC.out.below dr) (BX.out.below dr),aq dr⟩) (fun hHeld=>?_);refine tk 0 ?_;refine rdH 1 fun K hK=>?_;go_simp;refine (CS.out _ (BB.out.trans (hHeld.2.out.mono BB.out.size))).mono ?_;rintro e w2 ⟨rfl,hb2⟩;go_simp;refine hK.out _ _ (by have q:=hHeld.2.out.trans (hb2.mono hHeld.2.out.size);exact⟨boxes2r (BC.out.below q) (BX.out.below q),aq q⟩) (fun hHeldb1=>?_)
   clear hK K hHeld
   try simp only [sZ]
   refine tk 2 ?_;refine tk 3 ?_;refine tk 4 ?_;refine tk 5 ?_;refine tk 6 ?_;refine tk 7 ?_;refine tk 8 ?_;refine tk 9 ?_;refine tk0 10 ?_;refine tk0 11 ?_;refine tk0 12 ?_;refine tk0 13 ?_;refine tk0 14 ?_;refine tk 15 ?_;refine tk 16 ?_;refine tk0 17 ?_;refine tk0 18 ?_;refine tk0 19 ?_;refine tk0 20 ?_;refine tk0 21 ?_;refine tk 22 ?_;refine tk 23 ?_;refine tk0 24 ?_;refine tk0 25 ?_;refine tk0 26 ?_;refine tk 27 ?_;refine tk 28 ?_;refine wpAnyH_done (by kernel_rfl) ?_ _;have q:=hHeldb1.2.out;clear hHeldb1;go_wp2;go_ret;exact⟨rfl,BB.out.trans (q.mono BB.out.size)⟩
  ·have CD2:=aq (CD1.out p1)
   clear CD1
   rcases P with⟨p2,p3⟩ | ⟨p2,P⟩
   ·rw [p3]
    rw [p2] at CI;clear p3 p2 CM CD2
    go_enter Tryz.func92,Tryz.ntmps92
    unfold cfCells at hW0
    go_upto_region 1 with (fail)
    rw [<-hW0];clear hW0;have dr:=(Below.refl W0.heap.size W0).drew;refine wp_region_held_drew (S:=(fun w'=>(w'.cell? ⟨w.heap.size,0,none⟩=some (.int .u8 c.tag)/\w'.cell? ⟨w.heap.size,1,none⟩=some (.int .i64 c.most)/\w'.cell? ⟨w.heap.size,2,none⟩=some (.int .i64 c.seg)/\w'.cell? ⟨w.heap.size,3,none⟩=some (.int .i64 c.least)/\w'.cell? ⟨w.heap.size,4,none⟩=some (.int .i64 c.den)/\w'.cell? ⟨w.heap.size,5,none⟩=some (.int .i64 c.ll)/\w'.cell? ⟨w.heap.size,6,none⟩=some (.int .i64 c.rl)/\w'.cell? ⟨w.heap.size,7,none⟩=some (.int .i64 c.rh)/\w'.cell? ⟨w.heap.size,8,none⟩=some (.int .i64 c.lh)/\w'.cell? ⟨w.heap.size+1,0,none⟩=some (.int .i64 s.seg)/\w'.cell? ⟨w.heap.size+1,1,none⟩=some (.slice a.w s.words.length a.cw)/\w'.cell? ⟨w.heap.size+1,2,none⟩=some (.slice a.k s.keys.length a.ck)/\w'.cell? ⟨w.heap.size+1,3,none⟩=some (.slice a.v s.vals.length a.cv)/\w'.cell? ⟨w.heap.size+1,4,none⟩=some (.slice a.c s.counts.length a.cc)/\w'.cell? ⟨w.heap.size+1,5,none⟩=some (.int .u64 (s.laid:Int)))/\Hid (Below W0.heap.size W0 w'))) (by kernel_rfl) (⟨boxes2r (BC.out.below dr) (BX.out.below dr),aq dr⟩) (fun hHeld=>?_);refine tk 0 ?_;refine rdH 1 fun K hK=>?_;go_simp;refine (CS.out _ (BB.out.trans (hHeld.2.out.mono BB.out.size))).mono ?_;rintro e w2 ⟨rfl,hb2⟩;go_simp;refine hK.out _ _ (by have q:=hHeld.2.out.trans (hb2.mono hHeld.2.out.size);exact⟨boxes2r (BC.out.below q) (BX.out.below q),aq q⟩) (fun hHeldc1=>?_)
    clear hK K hHeld
    try simp only [sZ]
    refine tk 2 ?_;refine tk 3 ?_;refine tk 4 ?_;refine tk 5 ?_;refine tk 6 ?_;refine tk 7 ?_;refine tk 8 ?_;refine tk 9 ?_;refine tk 10 ?_;refine tk 11 ?_;refine tk 12 ?_;refine tk 13 ?_;refine rdH 14 fun K hK=>?_;go_simp;refine (CI.out _ (BB.out.trans (hHeldc1.2.out.mono BB.out.size))).mono ?_;rintro e w3 ⟨rfl,hb3⟩;go_simp;refine hK.out _ _ (by have q:=hHeldc1.2.out.trans (hb3.mono hHeldc1.2.out.size);exact⟨boxes2r (BC.out.below q) (BX.out.below q),aq q⟩) (fun hHeldc2=>?_);clear hK K hHeldc1
    try simp only [sZ]
    refine tk 15 ?_;refine tk 16 ?_;refine tk0 17 ?_;refine tk0 18 ?_;refine tk0 19 ?_;refine tk0 20 ?_;refine tk0 21 ?_;refine tk 22 ?_;refine tk 23 ?_;refine tk0 24 ?_;refine tk0 25 ?_;refine tk0 26 ?_;refine tk 27 ?_;refine tk 28 ?_;refine wpAnyH_done (by kernel_rfl) ?_ _;have q:=hHeldc2.2.out;clear hHeldc2;go_wp2;go_ret;exact⟨rfl,BB.out.trans (q.mono BB.out.size)⟩
   ·have CD:=aq (CD2.out p2)
    rw [p2] at CI;clear p2 CD2
    rcases P with⟨p2,p3⟩ | ⟨p2,p3⟩
    ·rw [p3]
     clear p3 CD;obtain⟨n,hn⟩:∃ n,n=Gp.many s:=⟨_,rfl⟩;rw [<-hn] at CM p2;clear hn
     go_enter Tryz.func92,Tryz.ntmps92
     unfold cfCells at hW0
     go_upto_region 1 with (fail)
     rw [<-hW0];clear hW0;have dr:=(Below.refl W0.heap.size W0).drew;refine wp_region_held_drew (S:=(fun w'=>(w'.cell? ⟨w.heap.size,0,none⟩=some (.int .u8 c.tag)/\w'.cell? ⟨w.heap.size,1,none⟩=some (.int .i64 c.most)/\w'.cell? ⟨w.heap.size,2,none⟩=some (.int .i64 c.seg)/\w'.cell? ⟨w.heap.size,3,none⟩=some (.int .i64 c.least)/\w'.cell? ⟨w.heap.size,4,none⟩=some (.int .i64 c.den)/\w'.cell? ⟨w.heap.size,5,none⟩=some (.int .i64 c.ll)/\w'.cell? ⟨w.heap.size,6,none⟩=some (.int .i64 c.rl)/\w'.cell? ⟨w.heap.size,7,none⟩=some (.int .i64 c.rh)/\w'.cell? ⟨w.heap.size,8,none⟩=some (.int .i64 c.lh)/\w'.cell? ⟨w.heap.size+1,0,none⟩=some (.int .i64 s.seg)/\w'.cell? ⟨w.heap.size+1,1,none⟩=some (.slice a.w s.words.length a.cw)/\w'.cell? ⟨w.heap.size+1,2,none⟩=some (.slice a.k s.keys.length a.ck)/\w'.cell? ⟨w.heap.size+1,3,none⟩=some (.slice a.v s.vals.length a.cv)/\w'.cell? ⟨w.heap.size+1,4,none⟩=some (.slice a.c s.counts.length a.cc)/\w'.cell? ⟨w.heap.size+1,5,none⟩=some (.int .u64 (s.laid:Int)))/\Hid (Below W0.heap.size W0 w'))) (by kernel_rfl) (⟨boxes2r (BC.out.below dr) (BX.out.below dr),aq dr⟩) (fun hHeld=>?_);refine tk 0 ?_;refine rdH 1 fun K hK=>?_;go_simp;refine (CS.out _ (BB.out.trans (hHeld.2.out.mono BB.out.size))).mono ?_;rintro e w2 ⟨rfl,hb2⟩;go_simp;refine hK.out _ _ (by have q:=hHeld.2.out.trans (hb2.mono hHeld.2.out.size);exact⟨boxes2r (BC.out.below q) (BX.out.below q),aq q⟩) (fun hHeldd1=>?_)
     clear hK K hHeld
     try simp only [sZ]
     refine tk 2 ?_;refine tk 3 ?_;refine tk 4 ?_;refine tk 5 ?_;refine tk 6 ?_;refine tk 7 ?_;refine tk 8 ?_;refine tk 9 ?_;refine tk 10 ?_;refine tk 11 ?_;refine tk 12 ?_;refine tk 13 ?_;refine rdH 14 fun K hK=>?_;go_simp;refine (CI.out _ (BB.out.trans (hHeldd1.2.out.mono BB.out.size))).mono ?_;rintro e w3 ⟨rfl,hb3⟩;go_simp;refine hK.out _ _ (by have q:=hHeldd1.2.out.trans (hb3.mono hHeldd1.2.out.size);exact⟨boxes2r (BC.out.below q) (BX.out.below q),aq q⟩) (fun hHeldd2=>?_);clear hK K hHeldd1
     try simp only [sZ]
     refine tk 15 ?_;refine tk 16 ?_;refine tk 17 ?_;refine tk 19 ?_;refine tk 20 ?_;refine rdH 18 fun K hK=>?_;go_simp;refine (CM.out _ (BB.out.trans (hHeldd2.2.out.mono BB.out.size))).mono ?_;rintro e w4 ⟨rfl,hb4⟩;go_simp;refine hK.out _ _ (by have q:=hHeldd2.2.out.trans (hb4.mono hHeldd2.2.out.size);exact⟨boxes2r (BC.out.below q) (BX.out.below q),aq q⟩) (fun hHeldd3=>?_);clear hK K hHeldd2
     try simp only [sZ]
     refine tk 21 ?_;refine tk 22 ?_;refine tk 23 ?_;refine tk0 24 ?_;refine tk0 25 ?_;refine tk0 26 ?_;refine tk 27 ?_;refine tk 28 ?_;refine wpAnyH_done (by kernel_rfl) ?_ _;have q:=hHeldd3.2.out;clear hHeldd3;go_wp2;go_ret;exact⟨rfl,BB.out.trans (q.mono BB.out.size)⟩
    ·rw [p3]
     clear p3;obtain⟨n,hn⟩:∃ n,n=Gp.many s:=⟨_,rfl⟩;obtain⟨d,hd⟩:∃ d,d=Gp.denseB c s (Gp.tall c s+1):=⟨_,rfl⟩;rw [<-hn] at CM p2;rw [<-hd] at CD ⊢;clear hn hd
     go_enter Tryz.func92,Tryz.ntmps92
     unfold cfCells at hW0
     go_upto_region 1 with (fail)
     rw [<-hW0];clear hW0;have dr:=(Below.refl W0.heap.size W0).drew;refine wp_region_held_drew (S:=(fun w'=>(w'.cell? ⟨w.heap.size,0,none⟩=some (.int .u8 c.tag)/\w'.cell? ⟨w.heap.size,1,none⟩=some (.int .i64 c.most)/\w'.cell? ⟨w.heap.size,2,none⟩=some (.int .i64 c.seg)/\w'.cell? ⟨w.heap.size,3,none⟩=some (.int .i64 c.least)/\w'.cell? ⟨w.heap.size,4,none⟩=some (.int .i64 c.den)/\w'.cell? ⟨w.heap.size,5,none⟩=some (.int .i64 c.ll)/\w'.cell? ⟨w.heap.size,6,none⟩=some (.int .i64 c.rl)/\w'.cell? ⟨w.heap.size,7,none⟩=some (.int .i64 c.rh)/\w'.cell? ⟨w.heap.size,8,none⟩=some (.int .i64 c.lh)/\w'.cell? ⟨w.heap.size+1,0,none⟩=some (.int .i64 s.seg)/\w'.cell? ⟨w.heap.size+1,1,none⟩=some (.slice a.w s.words.length a.cw)/\w'.cell? ⟨w.heap.size+1,2,none⟩=some (.slice a.k s.keys.length a.ck)/\w'.cell? ⟨w.heap.size+1,3,none⟩=some (.slice a.v s.vals.length a.cv)/\w'.cell? ⟨w.heap.size+1,4,none⟩=some (.slice a.c s.counts.length a.cc)/\w'.cell? ⟨w.heap.size+1,5,none⟩=some (.int .u64 (s.laid:Int)))/\Hid (Below W0.heap.size W0 w'))) (by kernel_rfl) (⟨boxes2r (BC.out.below dr) (BX.out.below dr),aq dr⟩) (fun hHeld=>?_);refine tk 0 ?_;refine rdH 1 fun K hK=>?_;go_simp;refine (CS.out _ (BB.out.trans (hHeld.2.out.mono BB.out.size))).mono ?_;rintro e w2 ⟨rfl,hb2⟩;go_simp;refine hK.out _ _ (by have q:=hHeld.2.out.trans (hb2.mono hHeld.2.out.size);exact⟨boxes2r (BC.out.below q) (BX.out.below q),aq q⟩) (fun hHelde1=>?_)
     clear hK K hHeld
     try simp only [sZ]
     refine tk 2 ?_;refine tk 3 ?_;refine tk 4 ?_;refine tk 5 ?_;refine tk 6 ?_;refine tk 7 ?_;refine tk 8 ?_;refine tk 9 ?_;refine tk 10 ?_;refine tk 11 ?_;refine tk 12 ?_;refine tk 13 ?_;refine rdH 14 fun K hK=>?_;go_simp;refine (CI.out _ (BB.out.trans (hHelde1.2.out.mono BB.out.size))).mono ?_;rintro e w3 ⟨rfl,hb3⟩;go_simp;refine hK.out _ _ (by have q:=hHelde1.2.out.trans (hb3.mono hHelde1.2.out.size);exact⟨boxes2r (BC.out.below q) (BX.out.below q),aq q⟩) (fun hHelde2=>?_);clear hK K hHelde1
     try simp only [sZ]
     refine tk 15 ?_;refine tk 16 ?_;refine tk 17 ?_;refine tk 19 ?_;refine tk 20 ?_;refine rdH 18 fun K hK=>?_;go_simp;refine (CM.out _ (BB.out.trans (hHelde2.2.out.mono BB.out.size))).mono ?_;rintro e w4 ⟨rfl,hb4⟩;go_simp;refine hK.out _ _ (by have q:=hHelde2.2.out.trans (hb4.mono hHelde2.2.out.size);exact⟨boxes2r (BC.out.below q) (BX.out.below q),aq q⟩) (fun hHelde3=>?_);clear hK K hHelde2
     try simp only [sZ]
     refine tk 21 ?_;refine tk 22 ?_;refine tk 23 ?_;refine tk 24 ?_;refine tk 25 ?_;refine rdH 26 fun K hK=>?_;go_simp;refine (CD.out _ (BB.out.trans (hHelde3.2.out.mono BB.out.size))).mono ?_;rintro e w5 ⟨rfl,hb5⟩;go_simp;refine hK.out _ _ (by have q:=hHelde3.2.out.trans (hb5.mono hHelde3.2.out.size);exact⟨boxes2r (BC.out.below q) (BX.out.below q),aq q⟩) (fun hHelde4=>?_);clear hK K hHelde3
     try simp only [sZ]
     refine tk 27 ?_;refine tk 28 ?_;refine wpAnyH_done (by kernel_rfl) ?_ _;have q:=hHelde4.2.out;clear hHelde4;go_wp2;go_ret;exact⟨rfl,BB.out.trans (q.mono BB.out.size)⟩
theorem r9Check (c:Cf) (s:Sl) (a:Ads) (w:World) (hc:c.In) (hh:Held w s a) (hok:s.Ok) (hs:s.Short) :
  Calls Tryz.prog 57 #[cfv c,slv s a] w fun e w'=>e=.returned (.int .i64 (Gp.chkE c s))/\Below w.heap.size w w':=by
 obtain⟨W0,hW0⟩:∃ W0,W0=(w.alloc (.cells (cfCells c) 23)).alloc (.cells #[.int .i64 s.seg,.slice a.w s.words.length a.cw,.slice a.k s.keys.length a.ck,.slice a.v s.vals.length a.cv,.slice a.c s.counts.length a.cc,.int .u64 (s.laid:Int)] 29):=⟨_,rfl⟩;have BB:=aq (show Below w.heap.size w W0 by rw [hW0];exact ((Below.refl w.heap.size w).alloc (Nat.le_refl _) _).alloc (by simp) _);have BC:=aq (show CBox W0 w.heap.size c by rw [hW0];exact (CBox.new w c 23).below ((Below.refl _ _).alloc (Nat.le_refl _) _));have BX:=aq (show Box W0 (w.heap.size+1) s a by rw [hW0];exact Box.second w _ s a 29);have CC:=aq (fun W=>r5May c W hc);have CM0:=aq (fun (hm:c.mayB=true) W (hb:Below w.heap.size w W)=>r9May c s a W ((Cf.may_iff c).1 hm) (hh.below hb) hok hs);have E:=aq (show Gp.chkE c s=(if c.mayB then (if Gp.ownB c s then 0 else 8) else 50) from rfl);rw [E.out];clear hc hh hok hs E;unfold slv cfv;unfold slv at CM0;unfold cfv at CC CM0
 cases hm:c.mayB
 ·rw [hm] at CC
  clear CM0 hm
  go_enter Tryz.func57,Tryz.ntmps57
  unfold cfCells at hW0
  go_upto_region 1 with (fail)
  rw [<-hW0];clear hW0;obtain⟨_,c0,c1,c2,c3,c4,c5,c6,c7,c8,_⟩:=BC.out
  go_wp2_with fail
  refine (CC.out _).mono ?_;rintro e w1 ⟨rfl,hb⟩;go_wp2;go_ret;exact⟨rfl,BB.out.trans (hb.mono BB.out.size)⟩
 ·have CM:=aq (CM0.out hm)
  rw [hm] at CC;clear CM0 hm
  cases ho:Gp.ownB c s
  ·rw [ho] at CM
   clear ho
   go_enter Tryz.func57,Tryz.ntmps57
   unfold cfCells at hW0
   go_upto_region 1 with (fail)
   rw [<-hW0];clear hW0;obtain⟨_,c0,c1,c2,c3,c4,c5,c6,c7,c8,_⟩:=BC.out
   go_wp2_with fail
   refine (CC.out _).mono ?_;rintro e w1 ⟨rfl,hb⟩;have B1:=aq (BB.out.trans (hb.mono BB.out.size));clear c0 c1 c2 c3 c4 c5 c6 c7 c8;obtain⟨_,c0,c1,c2,c3,c4,c5,c6,c7,c8,_⟩:=BC.out.below hb;obtain⟨_,q0,q1,q2,q3,q4,q5,_⟩:=BX.out.below hb;clear hb
   go_wp2_with fail
   refine (CM.out _ B1.out).mono ?_;rintro e w2 ⟨rfl,hb⟩;go_wp2;go_ret;exact⟨rfl,B1.out.trans (hb.mono B1.out.size)⟩
  ·rw [ho] at CM
   clear ho
   go_enter Tryz.func57,Tryz.ntmps57
   unfold cfCells at hW0
   go_upto_region 1 with (fail)
   rw [<-hW0];clear hW0;obtain⟨_,c0,c1,c2,c3,c4,c5,c6,c7,c8,_⟩:=BC.out
   go_wp2_with fail
   refine (CC.out _).mono ?_;rintro e w1 ⟨rfl,hb⟩;have B1:=aq (BB.out.trans (hb.mono BB.out.size));clear c0 c1 c2 c3 c4 c5 c6 c7 c8;obtain⟨_,c0,c1,c2,c3,c4,c5,c6,c7,c8,_⟩:=BC.out.below hb;obtain⟨_,q0,q1,q2,q3,q4,q5,_⟩:=BX.out.below hb;clear hb
   go_wp2_with fail
   refine (CM.out _ B1.out).mono ?_;rintro e w2 ⟨rfl,hb⟩;go_wp2;go_ret;exact⟨rfl,B1.out.trans (hb.mono B1.out.size)⟩
end Go.Proofs.YtpeckljoannolaaGreatDoor
