/- What Check and New of package gap return. -/
import Derived.Test.YtpeckljoannolaaGreatDoorTkOt
import Derived.Test.YtpeckljoannolaaGreatDoorP9aOt
import Derived.Test.YtpeckljoannolaaGreatDoorP8bOt
import Derived.Test.YtpeckljoannolaaGreatDoorM15Ot
import Derived.OrdersHeld
import Derived.Deep.RegionHeld
set_option linter.unusedVariables false
set_option linter.unusedSimpArgs false
set_option maxHeartbeats 4000000
set_option maxRecDepth 100000
namespace Go.Proofs.YtpeckljoannolaaGreatDoor
open Go.RowKit
theorem boxes2 {W:World} {g g':Nat} {c:Cf} {s:Sl} {a:Ads} (C:CBox W g c) (X:Box W g' s a):W.cell? ⟨g,0,none⟩=some (.int .u8 c.tag)/\W.cell? ⟨g,1,none⟩=some (.int .i64 c.most)/\W.cell? ⟨g,2,none⟩=some (.int .i64 c.seg)/\W.cell? ⟨g,3,none⟩=some (.int .i64 c.least)/\W.cell? ⟨g,4,none⟩=some (.int .i64 c.den)/\W.cell? ⟨g,5,none⟩=some (.int .i64 c.ll)/\W.cell? ⟨g,6,none⟩=some (.int .i64 c.rl)/\W.cell? ⟨g,7,none⟩=some (.int .i64 c.rh)/\W.cell? ⟨g,8,none⟩=some (.int .i64 c.lh) /\
  W.cell? ⟨g',0,none⟩=some (.int .i64 s.seg)/\W.cell? ⟨g',1,none⟩=some (.slice a.w s.words.length a.cw)/\W.cell? ⟨g',2,none⟩=some (.slice a.k s.keys.length a.ck)/\W.cell? ⟨g',3,none⟩=some (.slice a.v s.vals.length a.cv)/\W.cell? ⟨g',4,none⟩=some (.slice a.c s.counts.length a.cc)/\W.cell? ⟨g',5,none⟩=some (.int .u64 (s.laid:Int)) :=
 ⟨C.c0,C.c1,C.c2,C.c3,C.c4,C.c5,C.c6,C.c7,C.c8,X.c0,X.c1,X.c2,X.c3,X.c4,X.c5⟩
theorem gCheck (c:Cf) (s:Sl) (a:Ads) (w:World) (hc:c.In) (hh:Held w s a) (hok:s.Ok) (hs:s.Short) (hT:Tab w) :
  Calls Tryz.prog 46 #[cfv c,slv s a] w fun e w'=>e=.returned (.int .i64 (Gp.chkE c s))/\Below w.heap.size w w':=by
 obtain⟨W0,hW0⟩:∃ W0,W0=(w.alloc (.cells (cfCells c) 23)).alloc (.cells #[.int .i64 s.seg,.slice a.w s.words.length a.cw,.slice a.k s.keys.length a.ck,.slice a.v s.vals.length a.cv,.slice a.c s.counts.length a.cc,.int .u64 (s.laid:Int)] 29):=⟨_,rfl⟩;have BB:=aq (show Below w.heap.size w W0 by rw [hW0];exact ((Below.refl w.heap.size w).alloc (Nat.le_refl _) _).alloc (by simp) _);have BC:=aq (show CBox W0 w.heap.size c by rw [hW0];exact (CBox.new w c 23).below ((Below.refl _ _).alloc (Nat.le_refl _) _));have BX:=aq (show Box W0 (w.heap.size+1) s a by rw [hW0];exact Box.second w _ s a 29);have CK:=aq (fun W=>kCheck c W hc);have CS:=aq (fun W (hb:Below w.heap.size w W)=>sCheck s a W (hh.below hb) hok hs (hT.below hb));have CM:=aq (fun W (hb:Below w.heap.size w W)=>gMany s a W (hh.below hb) hok hs);have CH:=aq (fun (hm:c.mayB=true) (hf:s.May) (hg:s.seg=c.seg) W (hb:Below w.heap.size w W)=>gHolds c s a W hc (hh.below hb) hok hs hm hf.fits hg);clear hc hh hok hs hT
 cases hm:c.mayB
 ·have E:=aq (show c.chkE=50/\Gp.chkE c s=50 by unfold Cf.chkE Gp.chkE;rw [hm];exact⟨rfl,rfl⟩)
  rw [E.out.1] at CK;rw [E.out.2];clear hm E CS CM CH;unfold cfv at CK;unfold slv cfv
  go_enter Tryz.func46,Tryz.ntmps46
  unfold cfCells at hW0
  go_upto_region 1 with (fail)
  rw [<-hW0];clear hW0;obtain⟨_,c0,c1,c2,c3,c4,c5,c6,c7,c8,_⟩:=BC.out
  go_wp2_with fail
  refine (CK.out _).mono ?_;rintro e w1 ⟨rfl,hb⟩;go_wp2;go_ret;exact⟨rfl,BB.out.trans (hb.mono BB.out.size)⟩
 ·have P:=Gp.chk_parts (s:=s) hm
  have E:=aq (show c.chkE=0 by unfold Cf.chkE;rw [hm];rfl);rw [E.out] at CK;have CH2:=aq (CH.out hm);clear E CH hm;obtain⟨R,hR⟩:∃ R,R=Gp.chkE c s:=⟨_,rfl⟩;obtain⟨x,hx⟩:∃ x,x=s.chk:=⟨_,rfl⟩;obtain⟨n,hn⟩:∃ n,n=Gp.inV s 0 s.keys.length:=⟨_,rfl⟩;rw [<-hR] at P ⊢;rw [<-hx] at P CS;rw [<-hn] at P CM;clear hR hx hn;unfold cfv at CK CH2;unfold slv at CS CM CH2;unfold slv cfv
  rcases P with⟨p1,rfl⟩ | ⟨rfl,hmay,p⟩
  ·have k1:(x != 0)=true:=by simp [p1]
   clear p1
   go_enter Tryz.func46,Tryz.ntmps46
   unfold cfCells at hW0
   go_upto_region 1 with (fail)
   rw [<-hW0];clear hW0;obtain⟨_,c0,c1,c2,c3,c4,c5,c6,c7,c8,_⟩:=BC.out
   go_wp2_with fail
   refine (CK.out _).mono ?_;rintro e w1 ⟨rfl,hb⟩;have B1:=aq (BB.out.trans (hb.mono BB.out.size));have X1:=aq (BX.out.below hb);have C1:=aq (BC.out.below hb);clear c0 c1 c2 c3 c4 c5 c6 c7 c8 hb
   go_wp2_with fail
   have dr:=(Below.refl w1.heap.size w1).drew;refine wp_region_held_drew (S:=(fun w'=>(w'.cell? ⟨w.heap.size,0,none⟩=some (.int .u8 c.tag)/\w'.cell? ⟨w.heap.size,1,none⟩=some (.int .i64 c.most)/\w'.cell? ⟨w.heap.size,2,none⟩=some (.int .i64 c.seg)/\w'.cell? ⟨w.heap.size,3,none⟩=some (.int .i64 c.least)/\w'.cell? ⟨w.heap.size,4,none⟩=some (.int .i64 c.den)/\w'.cell? ⟨w.heap.size,5,none⟩=some (.int .i64 c.ll)/\w'.cell? ⟨w.heap.size,6,none⟩=some (.int .i64 c.rl)/\w'.cell? ⟨w.heap.size,7,none⟩=some (.int .i64 c.rh)/\w'.cell? ⟨w.heap.size,8,none⟩=some (.int .i64 c.lh)/\w'.cell? ⟨w.heap.size+1,0,none⟩=some (.int .i64 s.seg)/\w'.cell? ⟨w.heap.size+1,1,none⟩=some (.slice a.w s.words.length a.cw)/\w'.cell? ⟨w.heap.size+1,2,none⟩=some (.slice a.k s.keys.length a.ck)/\w'.cell? ⟨w.heap.size+1,3,none⟩=some (.slice a.v s.vals.length a.cv)/\w'.cell? ⟨w.heap.size+1,4,none⟩=some (.slice a.c s.counts.length a.cc)/\w'.cell? ⟨w.heap.size+1,5,none⟩=some (.int .u64 (s.laid:Int)))/\Hid (Below w1.heap.size w1 w'))) (by kernel_rfl) (⟨boxes2 (C1.out.below dr) (X1.out.below dr),aq dr⟩) (fun hHeld=>?_);refine tk 0 ?_;refine rdH 1 fun K hK=>?_;go_simp;refine (CS.out _ (B1.out.trans (hHeld.2.out.mono B1.out.size))).mono ?_;rintro e w2 ⟨rfl,hb2⟩;go_simp;refine hK.out _ _ (by have q:=hHeld.2.out.trans (hb2.mono hHeld.2.out.size);exact⟨boxes2 (C1.out.below q) (X1.out.below q),aq q⟩) (fun hHelda1=>?_)
   clear hK K hHeld
   try simp only [sZ]
   refine tk 2 ?_;refine tk 3 ?_;refine tk0 4 ?_;refine tk0 5 ?_;refine tk0 6 ?_;refine tk0 7 ?_;refine tk0 8 ?_;refine tk 9 ?_;refine tk 10 ?_;refine tk0 11 ?_;refine tk0 12 ?_;refine tk0 13 ?_;refine tk0 14 ?_;refine tk0 15 ?_;refine tk 16 ?_;refine tk 17 ?_;refine tk0 18 ?_;refine tk0 19 ?_;refine tk0 20 ?_;refine tk0 21 ?_;refine tk 22 ?_;refine wpAnyH_done (by kernel_rfl) ?_ _;have q:=hHelda1.2.out;clear hHelda1;go_wp2;go_ret;exact⟨rfl,B1.out.trans (q.mono B1.out.size)⟩
  ·rcases p with⟨p1,rfl⟩ | ⟨p1,p⟩
   ·have k1:(s.seg != c.seg)=true:=by simpa using p1
    clear p1 hmay CH2
    go_enter Tryz.func46,Tryz.ntmps46
    unfold cfCells at hW0
    go_upto_region 1 with (fail)
    rw [<-hW0];clear hW0;obtain⟨_,c0,c1,c2,c3,c4,c5,c6,c7,c8,_⟩:=BC.out
    go_wp2_with fail
    refine (CK.out _).mono ?_;rintro e w1 ⟨rfl,hb⟩;have B1:=aq (BB.out.trans (hb.mono BB.out.size));have X1:=aq (BX.out.below hb);have C1:=aq (BC.out.below hb);clear c0 c1 c2 c3 c4 c5 c6 c7 c8 hb
    go_wp2_with fail
    have dr:=(Below.refl w1.heap.size w1).drew;refine wp_region_held_drew (S:=(fun w'=>(w'.cell? ⟨w.heap.size,0,none⟩=some (.int .u8 c.tag)/\w'.cell? ⟨w.heap.size,1,none⟩=some (.int .i64 c.most)/\w'.cell? ⟨w.heap.size,2,none⟩=some (.int .i64 c.seg)/\w'.cell? ⟨w.heap.size,3,none⟩=some (.int .i64 c.least)/\w'.cell? ⟨w.heap.size,4,none⟩=some (.int .i64 c.den)/\w'.cell? ⟨w.heap.size,5,none⟩=some (.int .i64 c.ll)/\w'.cell? ⟨w.heap.size,6,none⟩=some (.int .i64 c.rl)/\w'.cell? ⟨w.heap.size,7,none⟩=some (.int .i64 c.rh)/\w'.cell? ⟨w.heap.size,8,none⟩=some (.int .i64 c.lh)/\w'.cell? ⟨w.heap.size+1,0,none⟩=some (.int .i64 s.seg)/\w'.cell? ⟨w.heap.size+1,1,none⟩=some (.slice a.w s.words.length a.cw)/\w'.cell? ⟨w.heap.size+1,2,none⟩=some (.slice a.k s.keys.length a.ck)/\w'.cell? ⟨w.heap.size+1,3,none⟩=some (.slice a.v s.vals.length a.cv)/\w'.cell? ⟨w.heap.size+1,4,none⟩=some (.slice a.c s.counts.length a.cc)/\w'.cell? ⟨w.heap.size+1,5,none⟩=some (.int .u64 (s.laid:Int)))/\Hid (Below w1.heap.size w1 w'))) (by kernel_rfl) (⟨boxes2 (C1.out.below dr) (X1.out.below dr),aq dr⟩) (fun hHeld=>?_);refine tk 0 ?_;refine rdH 1 fun K hK=>?_;go_simp;refine (CS.out _ (B1.out.trans (hHeld.2.out.mono B1.out.size))).mono ?_;rintro e w2 ⟨rfl,hb2⟩;go_simp;refine hK.out _ _ (by have q:=hHeld.2.out.trans (hb2.mono hHeld.2.out.size);exact⟨boxes2 (C1.out.below q) (X1.out.below q),aq q⟩) (fun hHeldb1=>?_)
    clear hK K hHeld
    try simp only [sZ]
    refine tk 2 ?_;refine tk 3 ?_;refine tk 4 ?_;refine tk 5 ?_;refine tk 6 ?_;refine tk 7 ?_;refine tk 8 ?_;refine tk 9 ?_;refine tk 10 ?_;refine tk0 11 ?_;refine tk0 12 ?_;refine tk0 13 ?_;refine tk0 14 ?_;refine tk0 15 ?_;refine tk 16 ?_;refine tk 17 ?_;refine tk0 18 ?_;refine tk0 19 ?_;refine tk0 20 ?_;refine tk0 21 ?_;refine tk 22 ?_;refine wpAnyH_done (by kernel_rfl) ?_ _;have q:=hHeldb1.2.out;clear hHeldb1;go_wp2;go_ret;exact⟨rfl,B1.out.trans (q.mono B1.out.size)⟩
   ·have CH:=aq (CH2.out hmay p1)
    have k1:(s.seg != c.seg)=false:=by simpa using p1
    clear p1 hmay CH2
    rcases p with⟨p1,rfl⟩ | ⟨p1,rfl⟩
    ·have k2:decide (n > c.most)=true:=by simpa using p1
     clear p1 CH
     go_enter Tryz.func46,Tryz.ntmps46
     unfold cfCells at hW0
     go_upto_region 1 with (fail)
     rw [<-hW0];clear hW0;obtain⟨_,c0,c1,c2,c3,c4,c5,c6,c7,c8,_⟩:=BC.out
     go_wp2_with fail
     refine (CK.out _).mono ?_;rintro e w1 ⟨rfl,hb⟩;have B1:=aq (BB.out.trans (hb.mono BB.out.size));have X1:=aq (BX.out.below hb);have C1:=aq (BC.out.below hb);clear c0 c1 c2 c3 c4 c5 c6 c7 c8 hb
     go_wp2_with fail
     have dr:=(Below.refl w1.heap.size w1).drew;refine wp_region_held_drew (S:=(fun w'=>(w'.cell? ⟨w.heap.size,0,none⟩=some (.int .u8 c.tag)/\w'.cell? ⟨w.heap.size,1,none⟩=some (.int .i64 c.most)/\w'.cell? ⟨w.heap.size,2,none⟩=some (.int .i64 c.seg)/\w'.cell? ⟨w.heap.size,3,none⟩=some (.int .i64 c.least)/\w'.cell? ⟨w.heap.size,4,none⟩=some (.int .i64 c.den)/\w'.cell? ⟨w.heap.size,5,none⟩=some (.int .i64 c.ll)/\w'.cell? ⟨w.heap.size,6,none⟩=some (.int .i64 c.rl)/\w'.cell? ⟨w.heap.size,7,none⟩=some (.int .i64 c.rh)/\w'.cell? ⟨w.heap.size,8,none⟩=some (.int .i64 c.lh)/\w'.cell? ⟨w.heap.size+1,0,none⟩=some (.int .i64 s.seg)/\w'.cell? ⟨w.heap.size+1,1,none⟩=some (.slice a.w s.words.length a.cw)/\w'.cell? ⟨w.heap.size+1,2,none⟩=some (.slice a.k s.keys.length a.ck)/\w'.cell? ⟨w.heap.size+1,3,none⟩=some (.slice a.v s.vals.length a.cv)/\w'.cell? ⟨w.heap.size+1,4,none⟩=some (.slice a.c s.counts.length a.cc)/\w'.cell? ⟨w.heap.size+1,5,none⟩=some (.int .u64 (s.laid:Int)))/\Hid (Below w1.heap.size w1 w'))) (by kernel_rfl) (⟨boxes2 (C1.out.below dr) (X1.out.below dr),aq dr⟩) (fun hHeld=>?_);refine tk 0 ?_;refine rdH 1 fun K hK=>?_;go_simp;refine (CS.out _ (B1.out.trans (hHeld.2.out.mono B1.out.size))).mono ?_;rintro e w2 ⟨rfl,hb2⟩;go_simp;refine hK.out _ _ (by have q:=hHeld.2.out.trans (hb2.mono hHeld.2.out.size);exact⟨boxes2 (C1.out.below q) (X1.out.below q),aq q⟩) (fun hHeldc1=>?_)
     clear hK K hHeld
     try simp only [sZ]
     refine tk 2 ?_;refine tk 3 ?_;refine tk 4 ?_;refine tk 5 ?_;refine tk 6 ?_;refine tk 7 ?_;refine tk 8 ?_;refine tk 9 ?_;refine tk 10 ?_;refine tk 11 ?_;refine tk 13 ?_;refine tk 14 ?_;refine rdH 12 fun K hK=>?_;go_simp;refine (CM.out _ (B1.out.trans (hHeldc1.2.out.mono B1.out.size))).mono ?_;rintro e w3 ⟨rfl,hb3⟩;go_simp;refine hK.out _ _ (by have q:=hHeldc1.2.out.trans (hb3.mono hHeldc1.2.out.size);exact⟨boxes2 (C1.out.below q) (X1.out.below q),aq q⟩) (fun hHeldc2=>?_);clear hK K hHeldc1
     try simp only [sZ]
     refine tk 15 ?_;refine tk 16 ?_;refine tk 17 ?_;refine tk0 18 ?_;refine tk0 19 ?_;refine tk0 20 ?_;refine tk0 21 ?_;refine tk 22 ?_;refine wpAnyH_done (by kernel_rfl) ?_ _;have q:=hHeldc2.2.out;clear hHeldc2;go_wp2;go_ret;exact⟨rfl,B1.out.trans (q.mono B1.out.size)⟩
    ·have k2:decide (n > c.most)=false:=by simpa using p1
     clear p1
     cases hB:Gp.holdsB c s
     ·rw [hB] at CH
      clear hB
      go_enter Tryz.func46,Tryz.ntmps46
      unfold cfCells at hW0
      go_upto_region 1 with (fail)
      rw [<-hW0];clear hW0;obtain⟨_,c0,c1,c2,c3,c4,c5,c6,c7,c8,_⟩:=BC.out
      go_wp2_with fail
      refine (CK.out _).mono ?_;rintro e w1 ⟨rfl,hb⟩;have B1:=aq (BB.out.trans (hb.mono BB.out.size));have X1:=aq (BX.out.below hb);have C1:=aq (BC.out.below hb);clear c0 c1 c2 c3 c4 c5 c6 c7 c8 hb
      go_wp2_with fail
      have dr:=(Below.refl w1.heap.size w1).drew;refine wp_region_held_drew (S:=(fun w'=>(w'.cell? ⟨w.heap.size,0,none⟩=some (.int .u8 c.tag)/\w'.cell? ⟨w.heap.size,1,none⟩=some (.int .i64 c.most)/\w'.cell? ⟨w.heap.size,2,none⟩=some (.int .i64 c.seg)/\w'.cell? ⟨w.heap.size,3,none⟩=some (.int .i64 c.least)/\w'.cell? ⟨w.heap.size,4,none⟩=some (.int .i64 c.den)/\w'.cell? ⟨w.heap.size,5,none⟩=some (.int .i64 c.ll)/\w'.cell? ⟨w.heap.size,6,none⟩=some (.int .i64 c.rl)/\w'.cell? ⟨w.heap.size,7,none⟩=some (.int .i64 c.rh)/\w'.cell? ⟨w.heap.size,8,none⟩=some (.int .i64 c.lh)/\w'.cell? ⟨w.heap.size+1,0,none⟩=some (.int .i64 s.seg)/\w'.cell? ⟨w.heap.size+1,1,none⟩=some (.slice a.w s.words.length a.cw)/\w'.cell? ⟨w.heap.size+1,2,none⟩=some (.slice a.k s.keys.length a.ck)/\w'.cell? ⟨w.heap.size+1,3,none⟩=some (.slice a.v s.vals.length a.cv)/\w'.cell? ⟨w.heap.size+1,4,none⟩=some (.slice a.c s.counts.length a.cc)/\w'.cell? ⟨w.heap.size+1,5,none⟩=some (.int .u64 (s.laid:Int)))/\Hid (Below w1.heap.size w1 w'))) (by kernel_rfl) (⟨boxes2 (C1.out.below dr) (X1.out.below dr),aq dr⟩) (fun hHeld=>?_);refine tk 0 ?_;refine rdH 1 fun K hK=>?_;go_simp;refine (CS.out _ (B1.out.trans (hHeld.2.out.mono B1.out.size))).mono ?_;rintro e w2 ⟨rfl,hb2⟩;go_simp;refine hK.out _ _ (by have q:=hHeld.2.out.trans (hb2.mono hHeld.2.out.size);exact⟨boxes2 (C1.out.below q) (X1.out.below q),aq q⟩) (fun hHeldd1=>?_)
      clear hK K hHeld
      try simp only [sZ]
      refine tk 2 ?_;refine tk 3 ?_;refine tk 4 ?_;refine tk 5 ?_;refine tk 6 ?_;refine tk 7 ?_;refine tk 8 ?_;refine tk 9 ?_;refine tk 10 ?_;refine tk 11 ?_;refine tk 13 ?_;refine tk 14 ?_;refine rdH 12 fun K hK=>?_;go_simp;refine (CM.out _ (B1.out.trans (hHeldd1.2.out.mono B1.out.size))).mono ?_;rintro e w3 ⟨rfl,hb3⟩;go_simp;refine hK.out _ _ (by have q:=hHeldd1.2.out.trans (hb3.mono hHeldd1.2.out.size);exact⟨boxes2 (C1.out.below q) (X1.out.below q),aq q⟩) (fun hHeldd2=>?_);clear hK K hHeldd1
      try simp only [sZ]
      refine tk 15 ?_;refine tk 16 ?_;refine tk 17 ?_;refine tk 18 ?_;refine tk 19 ?_;refine rdH 20 fun K hK=>?_;go_simp;refine (CH.out _ (B1.out.trans (hHeldd2.2.out.mono B1.out.size))).mono ?_;rintro e w4 ⟨rfl,hb4⟩;go_simp;refine hK.out _ _ (by have q:=hHeldd2.2.out.trans (hb4.mono hHeldd2.2.out.size);exact⟨boxes2 (C1.out.below q) (X1.out.below q),aq q⟩) (fun hHeldd3=>?_);clear hK K hHeldd2
      try simp only [sZ]
      refine tk 21 ?_;refine tk 22 ?_;refine wpAnyH_done (by kernel_rfl) ?_ _;have q:=hHeldd3.2.out;clear hHeldd3;go_wp2;go_ret;exact⟨rfl,B1.out.trans (q.mono B1.out.size)⟩
     ·rw [hB] at CH
      clear hB
      go_enter Tryz.func46,Tryz.ntmps46
      unfold cfCells at hW0
      go_upto_region 1 with (fail)
      rw [<-hW0];clear hW0;obtain⟨_,c0,c1,c2,c3,c4,c5,c6,c7,c8,_⟩:=BC.out
      go_wp2_with fail
      refine (CK.out _).mono ?_;rintro e w1 ⟨rfl,hb⟩;have B1:=aq (BB.out.trans (hb.mono BB.out.size));have X1:=aq (BX.out.below hb);have C1:=aq (BC.out.below hb);clear c0 c1 c2 c3 c4 c5 c6 c7 c8 hb
      go_wp2_with fail
      have dr:=(Below.refl w1.heap.size w1).drew;refine wp_region_held_drew (S:=(fun w'=>(w'.cell? ⟨w.heap.size,0,none⟩=some (.int .u8 c.tag)/\w'.cell? ⟨w.heap.size,1,none⟩=some (.int .i64 c.most)/\w'.cell? ⟨w.heap.size,2,none⟩=some (.int .i64 c.seg)/\w'.cell? ⟨w.heap.size,3,none⟩=some (.int .i64 c.least)/\w'.cell? ⟨w.heap.size,4,none⟩=some (.int .i64 c.den)/\w'.cell? ⟨w.heap.size,5,none⟩=some (.int .i64 c.ll)/\w'.cell? ⟨w.heap.size,6,none⟩=some (.int .i64 c.rl)/\w'.cell? ⟨w.heap.size,7,none⟩=some (.int .i64 c.rh)/\w'.cell? ⟨w.heap.size,8,none⟩=some (.int .i64 c.lh)/\w'.cell? ⟨w.heap.size+1,0,none⟩=some (.int .i64 s.seg)/\w'.cell? ⟨w.heap.size+1,1,none⟩=some (.slice a.w s.words.length a.cw)/\w'.cell? ⟨w.heap.size+1,2,none⟩=some (.slice a.k s.keys.length a.ck)/\w'.cell? ⟨w.heap.size+1,3,none⟩=some (.slice a.v s.vals.length a.cv)/\w'.cell? ⟨w.heap.size+1,4,none⟩=some (.slice a.c s.counts.length a.cc)/\w'.cell? ⟨w.heap.size+1,5,none⟩=some (.int .u64 (s.laid:Int)))/\Hid (Below w1.heap.size w1 w'))) (by kernel_rfl) (⟨boxes2 (C1.out.below dr) (X1.out.below dr),aq dr⟩) (fun hHeld=>?_);refine tk 0 ?_;refine rdH 1 fun K hK=>?_;go_simp;refine (CS.out _ (B1.out.trans (hHeld.2.out.mono B1.out.size))).mono ?_;rintro e w2 ⟨rfl,hb2⟩;go_simp;refine hK.out _ _ (by have q:=hHeld.2.out.trans (hb2.mono hHeld.2.out.size);exact⟨boxes2 (C1.out.below q) (X1.out.below q),aq q⟩) (fun hHelde1=>?_)
      clear hK K hHeld
      try simp only [sZ]
      refine tk 2 ?_;refine tk 3 ?_;refine tk 4 ?_;refine tk 5 ?_;refine tk 6 ?_;refine tk 7 ?_;refine tk 8 ?_;refine tk 9 ?_;refine tk 10 ?_;refine tk 11 ?_;refine tk 13 ?_;refine tk 14 ?_;refine rdH 12 fun K hK=>?_;go_simp;refine (CM.out _ (B1.out.trans (hHelde1.2.out.mono B1.out.size))).mono ?_;rintro e w3 ⟨rfl,hb3⟩;go_simp;refine hK.out _ _ (by have q:=hHelde1.2.out.trans (hb3.mono hHelde1.2.out.size);exact⟨boxes2 (C1.out.below q) (X1.out.below q),aq q⟩) (fun hHelde2=>?_);clear hK K hHelde1
      try simp only [sZ]
      refine tk 15 ?_;refine tk 16 ?_;refine tk 17 ?_;refine tk 18 ?_;refine tk 19 ?_;refine rdH 20 fun K hK=>?_;go_simp;refine (CH.out _ (B1.out.trans (hHelde2.2.out.mono B1.out.size))).mono ?_;rintro e w4 ⟨rfl,hb4⟩;go_simp;refine hK.out _ _ (by have q:=hHelde2.2.out.trans (hb4.mono hHelde2.2.out.size);exact⟨boxes2 (C1.out.below q) (X1.out.below q),aq q⟩) (fun hHelde3=>?_);clear hK K hHelde2
      try simp only [sZ]
      refine tk 21 ?_;refine tk 22 ?_;refine wpAnyH_done (by kernel_rfl) ?_ _;have q:=hHelde3.2.out;clear hHelde3;go_wp2;go_ret;exact⟨rfl,B1.out.trans (q.mono B1.out.size)⟩
theorem gNew (c:Cf) (w:World) (hc:c.In) :
  Calls Tryz.prog 38 #[cfv c] w (Ans (Gp.newS c) c.chkE w):=by
 obtain⟨W0,hW0⟩:∃ W0,W0=(w.alloc (.cells (cfCells c) 23)).alloc (.cells #[.int .i64 0,.slice none 0 0,.slice none 0 0,.slice none 0 0,.slice none 0 0,.int .u64 0] 29):=⟨_,rfl⟩;have BB:=aq (show Below w.heap.size w W0 by rw [hW0];exact ((Below.refl w.heap.size w).alloc (Nat.le_refl _) _).alloc (by simp) _);have BC:=aq (show CBox W0 w.heap.size c by rw [hW0];exact (CBox.new w c 23).below ((Below.refl _ _).alloc (Nat.le_refl _) _));have BR:=aq (show Box W0 (w.heap.size+1) Sl.none adsNone by rw [hW0];exact Box.second w _ Sl.none adsNone 29)
 have zz:w.heap.size+2<=W0.heap.size:=by rw [hW0];simp
 have CK:=aq (fun W=>kCheck c W hc);have CN:=aq (fun W=>sNew c.seg c.least W ⟨hc.seg.1,hc.seg.2⟩ ⟨hc.least.1,hc.least.2⟩);clear hc;unfold cfCells at hW0
 cases hm:c.mayB
 ·have E:=aq (show c.chkE=50/\Gp.newS c=Sl.none by unfold Cf.chkE Gp.newS;rw [hm];exact⟨rfl,rfl⟩)
  rw [E.out.1] at CK ⊢;clear hm CN;unfold cfv at CK;unfold cfv
  go_enter Tryz.func38,Tryz.ntmps38
  go_upto_region 1 with (fail)
  rw [<-hW0];clear hW0;obtain⟨_,c0,c1,c2,c3,c4,c5,c6,c7,c8,_⟩:=BC.out
  go_wp2_with fail
  refine (CK.out _).mono ?_;rintro e w1 ⟨rfl,hb⟩;replace BR:=aq (BR.out.below hb);replace BB:=aq (BB.out.trans (hb.mono BB.out.size));clear hb c0 c1 c2 c3 c4 c5 c6 c7 c8;obtain⟨_,s0,s1,s2,s3,s4,s5,sf⟩:=BR.out;have⟨sf0,sf1,sf2,sf3,sf4,sf5⟩:=sf6 sf;clear sf;go_wp2;refine bodyPost_ret (v:=.tuple #[slv Sl.none adsNone,.int .i64 50]) (by simp [results,Tryz.results38,go_sem,slv,Sl.none,adsNone,s0,s1,s2,s3,s4,s5,sf0,sf1,sf2,sf3,sf4,sf5]) rfl ?_;rw [E.out.2];exact⟨_,rfl,(none_own _ _).1,below_put6 BB.out (by omega) _ _ _ _ _ _⟩
 ·have M:=(Cf.may_iff c).1 hm
  have hf:Sl.fitsB c.seg c.least=true:=Gp.fits_cap M ⟨M.sizes.leastp,Int.le_refl _,Cf.dbl_ge 20 _ _ c.least (by have:=M.sizes.least1;have:=M.sizes.seg1;omega)⟩;have E:=aq (show c.chkE=0/\Gp.newS c=Sl.newS c.seg c.least/\Sl.newE c.seg c.least=0 by unfold Cf.chkE Gp.newS Sl.newS Sl.newE;rw [hm,hf];exact⟨rfl,rfl,rfl⟩);rw [E.out.1] at CK ⊢;rw [E.out.2.2] at CN;rw [E.out.2.1];clear hm hf M E;obtain⟨t,ht⟩:∃ t,t=Sl.newS c.seg c.least:=⟨_,rfl⟩;rw [<-ht] at CN ⊢;clear ht;unfold cfv at CK;unfold cfv
  go_enter Tryz.func38,Tryz.ntmps38
  go_upto_region 1 with (fail)
  rw [<-hW0];clear hW0;obtain⟨_,c0,c1,c2,c3,c4,c5,c6,c7,c8,_⟩:=BC.out
  go_wp2_with fail
  refine (CK.out _).mono ?_;rintro e w1 ⟨rfl,hb⟩;replace BR:=aq (BR.out.below hb);replace BC:=aq (BC.out.below hb);replace BB:=aq (BB.out.trans (hb.mono BB.out.size));have zz1:=hb.size;clear hb c0 c1 c2 c3 c4 c5 c6 c7 c8;obtain⟨_,c0,c1,c2,c3,c4,c5,c6,c7,c8,_⟩:=BC.out
  go_wp2_with fail
  refine (CN.out _).mono ?_;rintro e w2 ⟨a2,rfl,own,hb⟩;replace BR:=aq (BR.out.below hb);replace BB:=aq (BB.out.trans (hb.mono BB.out.size));have FIN:=aq (ans_put6 (r:=w.heap.size+1) own BB.out (by omega) (by omega));clear own hb c0 c1 c2 c3 c4 c5 c6 c7 c8;obtain⟨_,s0,s1,s2,s3,s4,s5,sf⟩:=BR.out;have⟨sf0,sf1,sf2,sf3,sf4,sf5⟩:=sf6 sf;clear sf;unfold slv;go_wp2;refine bodyPost_ret (v:=.tuple #[slv t a2,.int .i64 0]) (by simp [results,Tryz.results38,go_sem,slv,s0,s1,s2,s3,s4,s5,sf0,sf1,sf2,sf3,sf4,sf5]) rfl ?_;exact⟨_,rfl,FIN.out _ _ _ _ _ _⟩
end Go.Proofs.YtpeckljoannolaaGreatDoor
