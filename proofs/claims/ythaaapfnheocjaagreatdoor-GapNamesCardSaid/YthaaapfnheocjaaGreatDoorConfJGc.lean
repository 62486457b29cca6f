/- What package conf's Full and Sparse return. -/
import Derived.Test.YthaaapfnheocjaaGreatDoorP5cGc
import Derived.Test.YthaaapfnheocjaaGreatDoorTkGc
set_option linter.unusedVariables false
set_option linter.unusedSimpArgs false
set_option maxHeartbeats 4000000
set_option maxRecDepth 100000
namespace Go.Proofs.YthaaapfnheocjaaGreatDoor
open Go.RowKit
theorem bet_of {a b k n:Int} (a1:-67108864 < a) (a2:a < 67108864) (b1:-67108864 < b) (b2:b < 67108864) (k0:0<=k) (kn:k<=n) (n1:1<=n) (n2:n < 67108864):Fr.betE a b k n=0/\Fr.betV a b k n=a*(n-k)+b*k:=by
 refine Fr.bet_yes (by unfold Fr.betBad;simp;omega) ?_;unfold Fr.small4;rw [Fr.small_mk a1 a2,Fr.small_mk b1 b2,Fr.small_mk (n:=k) (by omega) (by omega),Fr.small_mk (n:=n) (by omega) (by omega)]
 rfl
theorem kFull (c:Cf) (size h n:Int) (w:World) (hc:c.In) (hsz:size<=9223372036854775807) :
  Calls Tryz.prog 47 #[cfv c,.int .i64 size,.int .i64 h,.int .i64 n] w fun e w'=>e=.returned (.tuple #[.bool (c.fullV size h n),.int .i64 (c.askE size h n)])/\Below w.heap.size w w':=by
 have BX:=aq (CBox.new w c 32);have B0:=aq ((Below.refl w.heap.size w).alloc (Nat.le_refl _) (.cells (cfCells c) 32));have CK:=aq (fun W=>kCheckWindow c size h n W hc hsz);clear hc;unfold cfCells at BX B0
 cases hk:c.okB size h n
 ·have E:=aq (Cf.ok_no hk)
  have k1:=E.out.1;rw [E.out.2.1] at CK;clear hk;obtain⟨x,hx⟩:∃ x,x=c.askE size h n:=⟨_,rfl⟩;rw [<-hx] at k1 CK ⊢;clear hx;unfold cfv at CK ⊢
  go_enter Tryz.func47,Tryz.ntmps47
  go_wp2_with fail
  refine (CK.out _).mono ?_;rintro e w1 ⟨rfl,hb⟩;go_wp2;go_ret2;rw [E.out.2.2.1];exact⟨rfl,B0.out.trans (hb.mono B0.out.size)⟩
 ·have K:=(Cf.ok_iff c size h n).1 hk
  rw [(Cf.ok_ask hk).1,(Cf.ok_ask hk).2] at CK;rw [(Cf.ok_ask hk).1];have bd:=K.bd;have d1:=K.may.sizes.den1;have d2:=K.may.sizes.den2;have e1:=K.may.dens.ll0;have e2:=K.may.dens.llrl;have e3:=K.may.dens.rhlh;have e4:=K.may.dens.lhd;have e5:=K.may.dens.rld;have e6:=K.may.dens.rh1 K.may.sizes;have n0:=K.n0;have n1:=K.n1;have h0:=K.h0;have h1:=K.h1;obtain⟨i0,i1,w4,w1,s1,s0,p0,p1,u0,u1,v0,v1,l0,l1,m0,m1⟩:=bd;have g1:=K.may.sizes.seg1;have g2:=K.may.sizes.seg2
  by_cases hz:c.high size=0
  ·have V:=aq (Cf.full_flat K hz)
   have A:=aq (show atMostB n size c.rh c.den=decide (n*c.den<=size*c.rh) from atMost_small (by omega) (by omega) (by omega) (by omega) (by omega) (by omega) (by omega) (by omega));rw [hz] at CK;clear K hk hz;unfold cfv at CK ⊢
   go_enter Tryz.func47,Tryz.ntmps47
   go_wp2_with fail
   refine (CK.out _).mono ?_;rintro e w1 ⟨rfl,hb⟩;have B1:=aq (B0.out.trans (hb.mono B0.out.size));obtain⟨_,_,_,_,_,c4,_,_,c7,_,_⟩:=BX.out.below hb;clear hb
   go_wp2_with fail
   refine (kAtMost _ _ _ _ _).mono ?_;rintro e w2 ⟨rfl,hb⟩;go_wp2;go_ret2;rw [V.out,A.out];exact⟨rfl,B1.out.trans (hb.mono B1.out.size)⟩
  ·have hp:1<=c.high size:=by omega
   have hbt:=bet_of (a:=c.lh) (b:=c.rh) (k:=h) (n:=c.high size) (by omega) (by omega) (by omega) (by omega) h0 h1 (by omega) (by omega);have CB:=aq (fun W=>fBetween c.lh c.rh h (c.high size) W);rw [hbt.1,hbt.2] at CB;clear hbt;have CS:=aq (fun W=>kSlotsOf c h W g1 g2 h0 (by omega));have V:=aq (Cf.full_high K hz);have A:=aq (show atMostB n (c.wide h) (c.lh*(c.high size-h)+c.rh*h) (c.high size*c.den)=decide (n*(c.high size*c.den)<=c.wide h*(c.lh*(c.high size-h)+c.rh*h)) from atMost_small (by omega) (by omega) (by omega) (by omega) (by omega) (by omega) (by omega) (by omega))
   have HZ:(c.high size==0)=false:=by simpa using hz
   clear K hk hz;obtain⟨H,hH⟩:∃ H,H=c.high size:=⟨_,rfl⟩;rw [<-hH] at CK CB V A p0 p1 i0 i1 h1 hp HZ;clear u0 u1 l0 l1 v0 v1 m0 m1;clear hH;obtain⟨X,hX⟩:∃ X,X=c.wide h:=⟨_,rfl⟩;rw [<-hX] at CS V A w4 w1 n1;clear hX;obtain⟨U,hU⟩:∃ U,U=c.lh*(H-h)+c.rh*h:=⟨_,rfl⟩;rw [<-hU] at CB V A;clear hU;have y1:IntKind.i64.wrap (H*c.den)=H*c.den:=IntWalk.i64_in _ (by omega);have y2:IntKind.i64.wrap (n+1)=n+1:=IntWalk.i64_in _ (by omega);unfold cfv at CK CS ⊢
   go_enter Tryz.func47,Tryz.ntmps47
   go_wp2_with fail
   refine (CK.out _).mono ?_;rintro e w1 ⟨rfl,hb⟩;have B1:=aq (B0.out.trans (hb.mono B0.out.size));have X1:=aq (BX.out.below hb);obtain⟨_,_,_,_,c3,_,c5,c6,c7,c8,_⟩:=X1.out;clear hb
   go_wp2_with fail
   refine (CB.out _).mono ?_;rintro e w2 ⟨rfl,hb⟩;have B2:=aq (B1.out.trans (hb.mono B1.out.size)).drew;have X2:=aq ((X1.out.below hb).below ((Below.refl _ _).drew));clear hb c3 c5 c6 c7 c8
   go_upto_region 7 with (fail)
   go_region_held3 (fun w'=>w'.cell? ⟨w.heap.size,0,none⟩=some (.int .u8 c.tag)/\w'.cell? ⟨w.heap.size,1,none⟩=some (.int .i64 c.most)/\w'.cell? ⟨w.heap.size,2,none⟩=some (.int .i64 c.seg)/\w'.cell? ⟨w.heap.size,3,none⟩=some (.int .i64 c.least)/\w'.cell? ⟨w.heap.size,4,none⟩=some (.int .i64 c.den)/\w'.cell? ⟨w.heap.size,5,none⟩=some (.int .i64 c.ll)/\w'.cell? ⟨w.heap.size,6,none⟩=some (.int .i64 c.rl)/\w'.cell? ⟨w.heap.size,7,none⟩=some (.int .i64 c.rh)/\w'.cell? ⟨w.heap.size,8,none⟩=some (.int .i64 c.lh))
    (first | (with_reducible exact X2.out.reads) | (with_reducible exact X3.out.reads) | (with_reducible exact X4.out.reads))
    (first | (go_at_call 104;(with_reducible refine (CS.out _).mono ?_);rintro e w3 ⟨rfl,hb3⟩;have X3:=aq (X2.out.below hb3);have B3:=aq (B2.out.trans (hb3.mono B2.out.size));clear hb3) | (go_at_call 102;(refine (kAtMost _ _ _ _ _).mono ?_);rintro e w4 ⟨rfl,hb4⟩;have X4:=aq (X3.out.below hb4);have B4:=aq (B3.out.trans (hb4.mono B3.out.size));clear hb4))
   go_wp2;go_ret2;rw [V.out,A.out];exact⟨rfl,B4.out⟩
theorem kSparse (c:Cf) (size h n:Int) (w:World) (hc:c.In) (hsz:size<=9223372036854775807) :
  Calls Tryz.prog 48 #[cfv c,.int .i64 size,.int .i64 h,.int .i64 n] w fun e w'=>e=.returned (.tuple #[.bool (c.sparseV size h n),.int .i64 (c.askE size h n)])/\Below w.heap.size w w':=by
 have BX:=aq (CBox.new w c 32);have B0:=aq ((Below.refl w.heap.size w).alloc (Nat.le_refl _) (.cells (cfCells c) 32));have CK:=aq (fun W=>kCheckWindow c size h n W hc hsz);clear hc;unfold cfCells at BX B0
 cases hk:c.okB size h n
 ·have E:=aq (Cf.ok_no hk)
  have k1:=E.out.1;rw [E.out.2.1] at CK;clear hk;obtain⟨x,hx⟩:∃ x,x=c.askE size h n:=⟨_,rfl⟩;rw [<-hx] at k1 CK ⊢;clear hx;unfold cfv at CK ⊢
  go_enter Tryz.func48,Tryz.ntmps48
  go_wp2_with fail
  refine (CK.out _).mono ?_;rintro e w1 ⟨rfl,hb⟩;go_wp2;go_ret2;rw [E.out.2.2.2];exact⟨rfl,B0.out.trans (hb.mono B0.out.size)⟩
 ·have K:=(Cf.ok_iff c size h n).1 hk
  rw [(Cf.ok_ask hk).1,(Cf.ok_ask hk).2] at CK;rw [(Cf.ok_ask hk).1];have bd:=K.bd;have d1:=K.may.sizes.den1;have d2:=K.may.sizes.den2;have e1:=K.may.dens.ll0;have e2:=K.may.dens.llrl;have e3:=K.may.dens.rhlh;have e4:=K.may.dens.lhd;have e5:=K.may.dens.rld;have e6:=K.may.dens.rh1 K.may.sizes;have n0:=K.n0;have n1:=K.n1;have h0:=K.h0;have h1:=K.h1;obtain⟨i0,i1,w4,w1,s1,s0,p0,p1,u0,u1,v0,v1,l0,l1,m0,m1⟩:=bd;have g1:=K.may.sizes.seg1;have g2:=K.may.sizes.seg2
  by_cases hz:size=c.least
  ·have V:=aq (Cf.sparse_least K hz)
   have hz':(size==c.least)=true:=by simpa using hz
   clear K hk hz;unfold cfv at CK ⊢
   go_enter Tryz.func48,Tryz.ntmps48
   go_wp2_with fail
   refine (CK.out _).mono ?_;rintro e w1 ⟨rfl,hb⟩;have B1:=aq (B0.out.trans (hb.mono B0.out.size));have c3:=(BX.out.below hb).c3;clear hb;go_wp2;go_ret2;rw [V.out];exact⟨rfl,B1.out⟩
  ·have hp:=Cf.high_pos K hz
   have hbt:=bet_of (a:=c.ll) (b:=c.rl) (k:=h) (n:=c.high size) (by omega) (by omega) (by omega) (by omega) h0 h1 (by omega) (by omega);have CB:=aq (fun W=>fBetween c.ll c.rl h (c.high size) W);rw [hbt.1,hbt.2] at CB;clear hbt;have CS:=aq (fun W=>kSlotsOf c h W g1 g2 h0 (by omega));have V:=aq (Cf.sparse_high K hz);have A:=aq (show atMostB (c.ll*(c.high size-h)+c.rl*h) (c.high size*c.den) (n+1) (c.wide h)=decide ((c.ll*(c.high size-h)+c.rl*h)*c.wide h<=c.high size*c.den*(n+1)) from atMost_small (by omega) (by omega) (by omega) (by omega) (by omega) (by omega) (by omega) (by omega))
   have HZ:(size==c.least)=false:=by simpa using hz
   clear K hk hz;obtain⟨H,hH⟩:∃ H,H=c.high size:=⟨_,rfl⟩;rw [<-hH] at CK CB V A p0 p1 i0 i1 h1 hp;clear u0 u1 l0 l1 v0 v1 m0 m1;clear hH;obtain⟨X,hX⟩:∃ X,X=c.wide h:=⟨_,rfl⟩;rw [<-hX] at CS V A w4 w1 n1;clear hX;obtain⟨U,hU⟩:∃ U,U=c.ll*(H-h)+c.rl*h:=⟨_,rfl⟩;rw [<-hU] at CB V A;clear hU;have y1:IntKind.i64.wrap (H*c.den)=H*c.den:=IntWalk.i64_in _ (by omega);have y2:IntKind.i64.wrap (n+1)=n+1:=IntWalk.i64_in _ (by omega);unfold cfv at CK CS ⊢
   go_enter Tryz.func48,Tryz.ntmps48
   go_wp2_with fail
   refine (CK.out _).mono ?_;rintro e w1 ⟨rfl,hb⟩;have B1:=aq (B0.out.trans (hb.mono B0.out.size));have X1:=aq (BX.out.below hb);obtain⟨_,_,_,_,c3,_,c5,c6,c7,c8,_⟩:=X1.out;clear hb
   go_wp2_with fail
   refine (CB.out _).mono ?_;rintro e w2 ⟨rfl,hb⟩;have B2:=aq (B1.out.trans (hb.mono B1.out.size)).drew;have X2:=aq ((X1.out.below hb).below ((Below.refl _ _).drew));clear hb c3 c5 c6 c7 c8
   go_upto_region 7 with (fail)
   go_region_held3 (fun w'=>w'.cell? ⟨w.heap.size,0,none⟩=some (.int .u8 c.tag)/\w'.cell? ⟨w.heap.size,1,none⟩=some (.int .i64 c.most)/\w'.cell? ⟨w.heap.size,2,none⟩=some (.int .i64 c.seg)/\w'.cell? ⟨w.heap.size,3,none⟩=some (.int .i64 c.least)/\w'.cell? ⟨w.heap.size,4,none⟩=some (.int .i64 c.den)/\w'.cell? ⟨w.heap.size,5,none⟩=some (.int .i64 c.ll)/\w'.cell? ⟨w.heap.size,6,none⟩=some (.int .i64 c.rl)/\w'.cell? ⟨w.heap.size,7,none⟩=some (.int .i64 c.rh)/\w'.cell? ⟨w.heap.size,8,none⟩=some (.int .i64 c.lh))
    (first | (with_reducible exact X2.out.reads) | (with_reducible exact X3.out.reads) | (with_reducible exact X4.out.reads))
    (first | (go_at_call 104;(with_reducible refine (CS.out _).mono ?_);rintro e w3 ⟨rfl,hb3⟩;have X3:=aq (X2.out.below hb3);have B3:=aq (B2.out.trans (hb3.mono B2.out.size));clear hb3) | (go_at_call 102;(refine (kAtMost _ _ _ _ _).mono ?_);rintro e w4 ⟨rfl,hb4⟩;have X4:=aq (X3.out.below hb4);have B4:=aq (B3.out.trans (hb4.mono B3.out.size));clear hb4))
   go_wp2;go_ret2;rw [V.out,A.out];exact⟨rfl,B4.out⟩
end Go.Proofs.YthaaapfnheocjaaGreatDoor
