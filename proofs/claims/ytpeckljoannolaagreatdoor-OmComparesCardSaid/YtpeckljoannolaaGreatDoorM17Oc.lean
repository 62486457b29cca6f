/- What package slots' method lay does, and what Lay and Clear return. -/
import Derived.Test.YtpeckljoannolaaGreatDoorTkOc
import Derived.Test.YtpeckljoannolaaGreatDoorM16Oc
import Derived.Test.YtpeckljoannolaaGreatDoorM15Oc
set_option linter.unusedVariables false
set_option linter.unusedSimpArgs false
set_option maxHeartbeats 8000000
set_option maxRecDepth 100000
namespace Go.Proofs.YtpeckljoannolaaGreatDoor
open Go.RowKit
theorem sLayIn (n g:Nat) (s:Sl) (a:Ads) (i:Nat) (x1 x2:Int) (w:World) (h:Cop n g w s a) (hM0:s.May) (hok0:s.Ok) (hs0:s.Short) (hi0:i < s.keys.length) (hn:n<=w.heap.size) :
  Calls Tryz.prog 245 #[.pointer (some ⟨g,0,none⟩),.int .i64 (i:Int),pv (x1,x2)] w (ClearPost n g (s.withP i (x1,x2)) a w):=by
 have CC:=aq (fun o=>sClear n g s a i (w.alloc o) (h.below ((Below.refl _ _).alloc (Nat.le_refl _) o)) hM0 hok0 hs0 hi0 (by simp;omega));have CB:=aq (fun W=>sBit i W (by have:=hs0.keys;omega));have PX0:=aq (PBox.new w (x1,x2) 93);have T0:=aq (fun o=>Turned.of_below (g:=g) (a:=a) ((Below.refl w.heap.size w).alloc (Nat.le_refl _) o));have FAR:=aq (And.intro (fun p hp=>(h.lies.k p hp).2) (fun p hp=>(h.lies.v p hp).2));have FAW:=aq (And.intro (fun p hp=>(h.lies.w p hp).2) (fun p hp=>(h.lies.c p hp).2));have hgl:=h.box.lt
 have l2:i < 65536:=by have:=hs0.keys;omega
 obtain⟨t,ht⟩:∃ t,t=s.emptied i:=⟨_,rfl⟩;have HM:=aq (show t.May by rw [ht];exact hM0.emptied hi0);have HOK:=aq (show t.Ok by rw [ht];exact ((may_fit (may_iff.2 hM0) hok0 hs0).emptied (by omega) i).ok);have HSh:=aq (show t.Short by rw [ht];exact hs0.emptied i)
 have hi:i < t.keys.length:=by rw [ht,emptied_keys];exact hi0
 have HB:=aq (show Oc.isB t.words i=false by rw [ht];exact emptied_off hM0 hi0);have HE:=aq (show s.withP i (x1,x2)={ t with words:=Oc.putW t.words i true,keys:=t.keys.set i x1,vals:=t.vals.set i x2,counts:=t.counts.set (t.segOf i) (t.counts.getD (t.segOf i) 0+1),laid:=(t.laid+1) % 18446744073709551616 } by rw [ht];rfl);rw [<-ht] at CC;clear h hM0 hok0 hs0 hi0 ht;unfold pv
 go_enter Tryz.func245,Tryz.ntmps245
 go_wp2_with fail
 refine (CC.out _).mono ?_;rintro e w1 ⟨rfl,H1',T1'⟩;have H1:=aq H1'
 have PX:=aq (show PBox w1 w.heap.size (x1,x2) from by
  have hb0:=T1'.block w.heap.size (by simp) (by omega) (fun p hp=>by have:=FAW.out.1 p hp;omega) (fun p hp=>by have:=FAR.out.1 p hp;omega) (fun p hp=>by have:=FAR.out.2 p hp;omega) (fun p hp=>by have:=FAW.out.2 p hp;omega);have hc:∀ o,w1.cell? ⟨w.heap.size,o,none⟩=_:=fun o=>World.cell?_of_block (a:=⟨w.heap.size,o,none⟩) hb0;have hf:∀ o,w1.frozen? ⟨w.heap.size,o,none⟩=_:=fun o=>World.frozen?_of_block (a:=⟨w.heap.size,o,none⟩) hb0
  exact⟨by have:=T1'.size;simp at this;omega,(hc 0).trans PX0.out.c0,(hc 1).trans PX0.out.c1,(hf 0).trans PX0.out.f0,(hf 1).trans PX0.out.f1⟩)
 have T1:=aq ((T0.out _).trans T1')
 have hpg:g≠w.heap.size:=by omega
 clear H1' T1' CC PX0 T0;obtain⟨_,c0,c1,c2,c3,c4,c5,_⟩:=H1.out.box;obtain⟨sg,hsg⟩:∃ sg:Nat,t.seg=sg:=⟨t.seg.toNat,by have:=HM.out.seg1;omega⟩
 have hsg4:4<=sg:=by have:=HM.out.seg1;omega
 have hsgo:t.segOf i=i/sg:=by unfold Sl.segOf;rw [hsg];simp
 have hq:=HM.out.slot_seg hi;rw [hsgo] at hq;obtain⟨q,hqe⟩:∃ q,q=i/sg:=⟨_,rfl⟩;rw [<-hqe] at hq
 have hqi:q<=i:=by rw [hqe];exact Nat.div_le_self _ _
 have HCO:=aq (HM.out.count q hq);obtain⟨y,hy⟩:∃ y,t.counts.getD q 0=y:=⟨_,rfl⟩
 have hy0:0<=y/\y<=65536:=by
  have h1:=HCO.out;rw [hy] at h1;have h2:=Oc.places_length_le t.words (q*t.seg.toNat) ((q+1)*t.seg.toNat)
  have e:(q+1)*t.seg.toNat-q*t.seg.toNat=t.seg.toNat:=by rw [Nat.add_mul];omega
  have h3:=HM.out.seg2;unfold Sl.countOf at h1
  omega
 have g3:IntKind.i64.wrap ((i:Int).tdiv t.seg)=(q:Int):=by
  rw [hsg,Int.tdiv_eq_ediv_of_nonneg (by omega),show (i:Int)/(sg:Int)=((i/sg:Nat):Int) from by simp,<-hqe];exact IntWalk.i64_in _ (by omega)
 have g7:IntKind.i64.wrap ((i:Int)/t.seg)=(q:Int):=by rw [<-g3,Int.tdiv_eq_ediv_of_nonneg (by omega)]
 have k0:¬ t.seg=0:=by omega
 have HSQ:=aq (show t.segOf i=q by rw [hsgo,hqe]);have HY:=aq hy
 have g5:(0:Int)<=(q:Int):=by omega
 have g6:(q:Int) < (t.counts.length:Int):=by omega
 clear hsg hsgo hqe hy HCO;have hwl:=HM.out.slot_word hi;obtain⟨bw,ow,haw,_,_,cw,fw⟩:=H1.out.own.words.item (i:=i/64) (by rw [ints_length];exact hwl);rw [ints_getD] at cw;have hbw:=H1.out.fw _ haw
 simp only at hbw
 have hbwp:bw < w.heap.size:=FAW.out.1 _ haw;obtain⟨x,hx⟩:∃ x,t.words.getD (i/64) 0=x:=⟨_,rfl⟩;rw [hx] at cw
 have hx64:x < 18446744073709551616:=by rw [<-hx];exact HOK.out.words _
 have KA:=aq (turn_on hx64 (show i % 64 < 64 by omega));have H2:=aq (H1.out.word haw hwl (Oc.putN x (i % 64) true));have HPW:=aq (show t.words.set (i/64) (Oc.putN x (i % 64) true)=Oc.putW t.words i true by unfold Oc.putW;rw [hx]);rw [HPW.out] at H2
 have j0:(0:Int)<=(i:Int)/64:=by omega
 have j1:(i:Int)/64 < (t.words.length:Int):=by omega
 have e64:((i:Int)/64).toNat=i/64:=by omega
 have e65:IntKind.i64.wrap ((i:Int)/64)=(i:Int)/64:=IntWalk.i64_in _ (by omega);have e66:(i:Int).tdiv 64=(i:Int)/64:=Int.tdiv_eq_ediv_of_nonneg (by omega)
 have HS1:=show w1.drew.cell? ⟨g,1,none⟩=some (.slice (some ⟨bw,ow,none⟩) t.words.length a.cw)/\True by rw [<-haw];exact⟨H1.out.box.c1,trivial⟩
 have keepS:=aq (show ∀ u:Value,w1.drew.cell? ⟨g,1,none⟩=some (.slice (some ⟨bw,ow,none⟩) t.words.length a.cw)/\True->(w1.drew.setCell ⟨bw,ow+i/64,none⟩ u).cell? ⟨g,1,none⟩=some (.slice (some ⟨bw,ow,none⟩) t.words.length a.cw)/\True from fun u h=>⟨(World.cell?_setCell_other _ _ _ _ (by intro e;injection e with e1;exact hbw e1)).trans h.1,trivial⟩);clear hx haw
 go_upto_region 2 with (fail)
 refine wp_region_held_drew (S:=fun w'=>w'.cell? ⟨g,1,none⟩=some (.slice (some ⟨bw,ow,none⟩) t.words.length a.cw)/\True) (by kernel_rfl) HS1 (fun hHeld=>?_);clear HS1 c0 c1 c2 c3 c4 c5;refine tk2 0 ?_;refine tk2 1 ?_;refine tk2 2 ?_;refine tk2 3 ?_;refine tk2 4 ?_;refine tk2 5 ?_;refine tk2 6 ?_;refine tk2 7 ?_;refine tk2 9 ?_;refine wpAnyH_ready (rs:=[8,10]) (by kernel_rfl) (by simp) ?_;refine cH (fun K hK=>?_) ?_
 ·skip
  go_simp;refine hK.out _ _ hHeld (fun hHeld=>?_);clear hK K
  try simp only [sZ]
  refine rdH 10 fun K hK=>?_;go_simp;refine (CB.out _).mono ?_;rintro e w' ⟨rfl,rfl⟩
  try go_wp2_with fail
  refine hK.out _ _ hHeld (fun hHeld=>?_);clear hK K
  try simp only [sZ]
  refine tk2 11 ?_;refine tk2 12 ?_;refine rdH 13 fun K hK=>?_;go_simp;refine hK.out _ _ (keepS.out _ hHeld) (fun _=>?_);clear hK K hHeld;refine wpAnyH_done (by kernel_rfl) ?_ _;rw [KA.out];obtain⟨W2,hW2⟩:∃ W2,W2=(w1.setCell ⟨bw,ow+i/64,none⟩ (.int .u64 (Oc.putN x (i % 64) true:Int))).drew:=⟨_,rfl⟩;have H3:=aq (show Cop n g W2 { t with words:=Oc.putW t.words i true } a/\Turned g a w W2 by rw [hW2];exact⟨H2.out.1.below ((Below.refl _ _).drew),(T1.out.trans H2.out.2).trans (Turned.of_below ((Below.refl _ _).drew))⟩);have hW2':=hW2;rw [<-hW2];have P2:=aq (show PBox W2 w.heap.size (x1,x2) by rw [hW2'];exact (PX.out.setOther (g':=bw) (by omega) _ _).below ((Below.refl _ _).drew));clear hW2 hW2' H2 KA keepS cw fw hx64;obtain⟨_,c0,c1,c2,c3,c4,c5,_⟩:=H3.out.1.box;obtain⟨bc,oc,hac,_,_,cc,fc⟩:=H3.out.1.own.counts.item (i:=q) hq
  dsimp only at c0 c1 c2 c3 c4 c5 cc
  rw [HY.out] at cc;rw [hac] at c4;have H4:=aq (H3.out.1.count hac hq (y+1));have hyw:IntKind.i64.wrap (y+1)=y+1:=IntWalk.i64_in _ (by omega);have hbcp:bc < w.heap.size:=FAW.out.2 _ hac;clear hac
  go_upto_region 3 with (fail)
  go_still_tail 15,(by kernel_rfl)
  go_upto_region 4 with (fail)
  obtain⟨W3,hW3⟩:∃ W3,W3=(W2.setCell ⟨bc,oc+q,none⟩ (.int .i64 (y+1))).drew:=⟨_,rfl⟩;have H5:=aq (show Cop n g W3 { t with words:=Oc.putW t.words i true,counts:=t.counts.set q (y+1) } a/\Turned g a w W3 by rw [hW3];exact⟨H4.out.1.below ((Below.refl _ _).drew),(H3.out.2.trans H4.out.2).trans (Turned.of_below ((Below.refl _ _).drew))⟩);have P3:=aq (show PBox W3 w.heap.size (x1,x2) by rw [hW3];exact (P2.out.setOther (g':=bc) (by omega) _ _).below ((Below.refl _ _).drew))
  first | rw [<-hW3] | skip
  clear hW3 H4 H3 P2 c0 c1 c2 c3 c4 c5 cc fc g3 g7 k0 hyw;obtain⟨_,c0,c1,c2,c3,c4,c5,_⟩:=H5.out.1.box;have d0:=P3.out.c0;have d1:=P3.out.c1
  try dsimp only at d0 d1
  have hiv:i < t.vals.length:=by have:=HM.out.vals;omega
  obtain⟨bk,ok,hak,_,_,ck,fk⟩:=H5.out.1.own.keys.item (i:=i) hi;obtain⟨bv,ov,hav,_,_,cv,fv⟩:=H5.out.1.own.vals.item (i:=i) hiv
  dsimp only at c0 c1 c2 c3 c4 c5 ck cv
  have hkv:bk≠bv:=H5.out.1.sep.kv _ _ hak hav;have H6:=aq (H5.out.1.key hak hi x1);have H7:=aq (H6.out.1.val hav hiv x2);rw [hak] at c2;rw [hav] at c3
  have i0:(0:Int)<=(i:Int):=by omega
  have i1:(i:Int) < (t.keys.length:Int):=by omega
  have i2:(i:Int) < (t.vals.length:Int):=by omega
  have hbk:=H5.out.1.fk _ hak;have hbv:=H5.out.1.fv _ hav;have hbkp:bk < w.heap.size:=FAR.out.1 _ hak;have hbvp:bv < w.heap.size:=FAR.out.2 _ hav
  simp only at hbk hbv
  have keep3:=aq (show ∀ (V:World) (b o:Nat) (u:Value),b=bk∨b=bv->(V.cell? ⟨g,2,none⟩=some (.slice (some ⟨bk,ok,none⟩) t.keys.length a.ck)/\V.cell? ⟨g,3,none⟩=some (.slice (some ⟨bv,ov,none⟩) t.vals.length a.cv)/\V.cell? ⟨w.heap.size,0,none⟩=some (.int .i64 x1)/\V.cell? ⟨w.heap.size,1,none⟩=some (.int .i64 x2))->((V.setCell ⟨b,o,none⟩ u).cell? ⟨g,2,none⟩=some (.slice (some ⟨bk,ok,none⟩) t.keys.length a.ck)/\(V.setCell ⟨b,o,none⟩ u).cell? ⟨g,3,none⟩=some (.slice (some ⟨bv,ov,none⟩) t.vals.length a.cv)/\(V.setCell ⟨b,o,none⟩ u).cell? ⟨w.heap.size,0,none⟩=some (.int .i64 x1)/\(V.setCell ⟨b,o,none⟩ u).cell? ⟨w.heap.size,1,none⟩=some (.int .i64 x2)) from fun V b o u hb h=>by
   have hne:b≠g:=by rcases hb with rfl | rfl<;>assumption
   have hnp:b≠w.heap.size:=by rcases hb with rfl | rfl<;>omega
   exact⟨(World.cell?_setCell_other _ _ _ _ (by intro e;injection e with e1;exact hne e1)).trans h.1,(World.cell?_setCell_other _ _ _ _ (by intro e;injection e with e1;exact hne e1)).trans h.2.1,(World.cell?_setCell_other _ _ _ _ (by intro e;injection e with e1;exact hnp e1)).trans h.2.2.1,(World.cell?_setCell_other _ _ _ _ (by intro e;injection e with e1;exact hnp e1)).trans h.2.2.2⟩)
  clear hak hav
  have HS3:=show W3.drew.cell? ⟨g,2,none⟩=some (.slice (some ⟨bk,ok,none⟩) t.keys.length a.ck)/\W3.drew.cell? ⟨g,3,none⟩=some (.slice (some ⟨bv,ov,none⟩) t.vals.length a.cv)/\W3.drew.cell? ⟨w.heap.size,0,none⟩=some (.int .i64 x1)/\W3.drew.cell? ⟨w.heap.size,1,none⟩=some (.int .i64 x2) from⟨c2,c3,d0,d1⟩
  refine wp_region_held_drew (S:=fun w'=>w'.cell? ⟨g,2,none⟩=some (.slice (some ⟨bk,ok,none⟩) t.keys.length a.ck)/\w'.cell? ⟨g,3,none⟩=some (.slice (some ⟨bv,ov,none⟩) t.vals.length a.cv)/\w'.cell? ⟨w.heap.size,0,none⟩=some (.int .i64 x1)/\w'.cell? ⟨w.heap.size,1,none⟩=some (.int .i64 x2)) (by kernel_rfl) HS3 (fun hHeld=>?_);clear HS3 c0 c1 c2 c3 c4 c5;refine tk4 0 ?_;refine tk4 1 ?_;refine tk4 2 ?_;refine tk4 3 ?_;refine tk4 4 ?_;refine tk4 5 ?_;refine tk4 6 ?_;refine tk4 7 ?_;refine tk4 8 ?_;refine tk4 9 ?_;refine tk4 10 ?_;refine tk4 11 ?_;refine tk4 12 ?_;refine tk4 13 ?_;refine tk4 14 ?_;refine tk4 15 ?_;refine tk4 16 ?_;refine rdH 17 fun K hK=>?_;go_simp;refine hK.out _ _ (keep3.out _ _ _ _ (by first | exact Or.inl rfl | exact Or.inr rfl) hHeld) (fun hHeld=>?_);clear hK K
  try simp only [sZ]
  refine tk4 18 ?_;refine rdH 19 fun K hK=>?_;go_simp;refine hK.out _ _ (keep3.out _ _ _ _ (by first | exact Or.inl rfl | exact Or.inr rfl) hHeld) (fun hHeld=>?_);clear hK K
  try simp only [sZ]
  refine wpAnyH_done (by kernel_rfl) ?_ _
  go_upto_region 5 with (fail)
  obtain⟨W4,hW4⟩:∃ W4,W4=((W3.setCell ⟨bk,ok+i,none⟩ (.int .i64 x1)).setCell ⟨bv,ov+i,none⟩ (.int .i64 x2)).drew:=⟨_,rfl⟩;have H8:=aq (show Cop n g W4 { t with words:=Oc.putW t.words i true,keys:=t.keys.set i x1,vals:=t.vals.set i x2,counts:=t.counts.set q (y+1) } a/\Turned g a w W4 by rw [hW4];exact⟨H7.out.1.below ((Below.refl _ _).drew),((H5.out.2.trans H6.out.2).trans H7.out.2).trans (Turned.of_below ((Below.refl _ _).drew))⟩)
  first | rw [<-hW4] | skip
  clear hW4 H5 H6 H7 keep3 ck cv fk fv hHeld P3;obtain⟨_,c0,c1,c2,c3,c4,c5,cf⟩:=H8.out.1.box;have cf5:=cf 5
  dsimp only at c0 c1 c2 c3 c4 c5
  have KL:IntKind.u64.wrap ((t.laid:Int)+1)=(((t.laid+1) % 18446744073709551616:Nat):Int):=by rw [IntKind.wrap_u64];omega
  have H9:=aq (H8.out.1.laid ((t.laid+1) % 18446744073709551616));clear cf;go_wp2
  try rw [KL]
  go_end0
  rw [HE.out,HSQ.out,HY.out];exact⟨rfl,H9.out.1,H8.out.2.trans H9.out.2⟩
 refine cH (fun K hK=>?_) AllReadyH.nil;skip;go_simp;refine (CB.out _).mono ?_;rintro e w' ⟨rfl,rfl⟩
 try go_wp2_with fail
 refine hK.out _ _ hHeld (fun hHeld=>?_);clear hK K
 try simp only [sZ]
 refine rdH 8 fun K hK=>?_;go_simp;refine hK.out _ _ hHeld (fun hHeld=>?_);clear hK K
 try simp only [sZ]
 refine tk2 11 ?_;refine tk2 12 ?_;refine rdH 13 fun K hK=>?_;go_simp;refine hK.out _ _ (keepS.out _ hHeld) (fun _=>?_);clear hK K hHeld;refine wpAnyH_done (by kernel_rfl) ?_ _;rw [KA.out];obtain⟨W2,hW2⟩:∃ W2,W2=(w1.setCell ⟨bw,ow+i/64,none⟩ (.int .u64 (Oc.putN x (i % 64) true:Int))).drew:=⟨_,rfl⟩;have H3:=aq (show Cop n g W2 { t with words:=Oc.putW t.words i true } a/\Turned g a w W2 by rw [hW2];exact⟨H2.out.1.below ((Below.refl _ _).drew),(T1.out.trans H2.out.2).trans (Turned.of_below ((Below.refl _ _).drew))⟩);have hW2':=hW2;rw [<-hW2];have P2:=aq (show PBox W2 w.heap.size (x1,x2) by rw [hW2'];exact (PX.out.setOther (g':=bw) (by omega) _ _).below ((Below.refl _ _).drew));clear hW2 hW2' H2 KA keepS cw fw hx64;obtain⟨_,c0,c1,c2,c3,c4,c5,_⟩:=H3.out.1.box;obtain⟨bc,oc,hac,_,_,cc,fc⟩:=H3.out.1.own.counts.item (i:=q) hq
 dsimp only at c0 c1 c2 c3 c4 c5 cc
 rw [HY.out] at cc;rw [hac] at c4;have H4:=aq (H3.out.1.count hac hq (y+1));have hyw:IntKind.i64.wrap (y+1)=y+1:=IntWalk.i64_in _ (by omega);have hbcp:bc < w.heap.size:=FAW.out.2 _ hac;clear hac
 go_upto_region 3 with (fail)
 go_still_tail 15,(by kernel_rfl)
 go_upto_region 4 with (fail)
 obtain⟨W3,hW3⟩:∃ W3,W3=(W2.setCell ⟨bc,oc+q,none⟩ (.int .i64 (y+1))).drew:=⟨_,rfl⟩;have H5:=aq (show Cop n g W3 { t with words:=Oc.putW t.words i true,counts:=t.counts.set q (y+1) } a/\Turned g a w W3 by rw [hW3];exact⟨H4.out.1.below ((Below.refl _ _).drew),(H3.out.2.trans H4.out.2).trans (Turned.of_below ((Below.refl _ _).drew))⟩);have P3:=aq (show PBox W3 w.heap.size (x1,x2) by rw [hW3];exact (P2.out.setOther (g':=bc) (by omega) _ _).below ((Below.refl _ _).drew))
 first | rw [<-hW3] | skip
 clear hW3 H4 H3 P2 c0 c1 c2 c3 c4 c5 cc fc g3 g7 k0 hyw;obtain⟨_,c0,c1,c2,c3,c4,c5,_⟩:=H5.out.1.box;have d0:=P3.out.c0;have d1:=P3.out.c1
 try dsimp only at d0 d1
 have hiv:i < t.vals.length:=by have:=HM.out.vals;omega
 obtain⟨bk,ok,hak,_,_,ck,fk⟩:=H5.out.1.own.keys.item (i:=i) hi;obtain⟨bv,ov,hav,_,_,cv,fv⟩:=H5.out.1.own.vals.item (i:=i) hiv
 dsimp only at c0 c1 c2 c3 c4 c5 ck cv
 have hkv:bk≠bv:=H5.out.1.sep.kv _ _ hak hav;have H6:=aq (H5.out.1.key hak hi x1);have H7:=aq (H6.out.1.val hav hiv x2);rw [hak] at c2;rw [hav] at c3
 have i0:(0:Int)<=(i:Int):=by omega
 have i1:(i:Int) < (t.keys.length:Int):=by omega
 have i2:(i:Int) < (t.vals.length:Int):=by omega
 have hbk:=H5.out.1.fk _ hak;have hbv:=H5.out.1.fv _ hav;have hbkp:bk < w.heap.size:=FAR.out.1 _ hak;have hbvp:bv < w.heap.size:=FAR.out.2 _ hav
 simp only at hbk hbv
 have keep3:=aq (show ∀ (V:World) (b o:Nat) (u:Value),b=bk∨b=bv->(V.cell? ⟨g,2,none⟩=some (.slice (some ⟨bk,ok,none⟩) t.keys.length a.ck)/\V.cell? ⟨g,3,none⟩=some (.slice (some ⟨bv,ov,none⟩) t.vals.length a.cv)/\V.cell? ⟨w.heap.size,0,none⟩=some (.int .i64 x1)/\V.cell? ⟨w.heap.size,1,none⟩=some (.int .i64 x2))->((V.setCell ⟨b,o,none⟩ u).cell? ⟨g,2,none⟩=some (.slice (some ⟨bk,ok,none⟩) t.keys.length a.ck)/\(V.setCell ⟨b,o,none⟩ u).cell? ⟨g,3,none⟩=some (.slice (some ⟨bv,ov,none⟩) t.vals.length a.cv)/\(V.setCell ⟨b,o,none⟩ u).cell? ⟨w.heap.size,0,none⟩=some (.int .i64 x1)/\(V.setCell ⟨b,o,none⟩ u).cell? ⟨w.heap.size,1,none⟩=some (.int .i64 x2)) from fun V b o u hb h=>by
  have hne:b≠g:=by rcases hb with rfl | rfl<;>assumption
  have hnp:b≠w.heap.size:=by rcases hb with rfl | rfl<;>omega
  exact⟨(World.cell?_setCell_other _ _ _ _ (by intro e;injection e with e1;exact hne e1)).trans h.1,(World.cell?_setCell_other _ _ _ _ (by intro e;injection e with e1;exact hne e1)).trans h.2.1,(World.cell?_setCell_other _ _ _ _ (by intro e;injection e with e1;exact hnp e1)).trans h.2.2.1,(World.cell?_setCell_other _ _ _ _ (by intro e;injection e with e1;exact hnp e1)).trans h.2.2.2⟩)
 clear hak hav
 have HS3:=show W3.drew.cell? ⟨g,2,none⟩=some (.slice (some ⟨bk,ok,none⟩) t.keys.length a.ck)/\W3.drew.cell? ⟨g,3,none⟩=some (.slice (some ⟨bv,ov,none⟩) t.vals.length a.cv)/\W3.drew.cell? ⟨w.heap.size,0,none⟩=some (.int .i64 x1)/\W3.drew.cell? ⟨w.heap.size,1,none⟩=some (.int .i64 x2) from⟨c2,c3,d0,d1⟩
 refine wp_region_held_drew (S:=fun w'=>w'.cell? ⟨g,2,none⟩=some (.slice (some ⟨bk,ok,none⟩) t.keys.length a.ck)/\w'.cell? ⟨g,3,none⟩=some (.slice (some ⟨bv,ov,none⟩) t.vals.length a.cv)/\w'.cell? ⟨w.heap.size,0,none⟩=some (.int .i64 x1)/\w'.cell? ⟨w.heap.size,1,none⟩=some (.int .i64 x2)) (by kernel_rfl) HS3 (fun hHeld=>?_);clear HS3 c0 c1 c2 c3 c4 c5;refine tk4 0 ?_;refine tk4 1 ?_;refine tk4 2 ?_;refine tk4 3 ?_;refine tk4 4 ?_;refine tk4 5 ?_;refine tk4 6 ?_;refine tk4 7 ?_;refine tk4 8 ?_;refine tk4 9 ?_;refine tk4 10 ?_;refine tk4 11 ?_;refine tk4 12 ?_;refine tk4 13 ?_;refine tk4 14 ?_;refine tk4 15 ?_;refine tk4 16 ?_;refine rdH 17 fun K hK=>?_;go_simp;refine hK.out _ _ (keep3.out _ _ _ _ (by first | exact Or.inl rfl | exact Or.inr rfl) hHeld) (fun hHeld=>?_);clear hK K
 try simp only [sZ]
 refine tk4 18 ?_;refine rdH 19 fun K hK=>?_;go_simp;refine hK.out _ _ (keep3.out _ _ _ _ (by first | exact Or.inl rfl | exact Or.inr rfl) hHeld) (fun hHeld=>?_);clear hK K
 try simp only [sZ]
 refine wpAnyH_done (by kernel_rfl) ?_ _
 go_upto_region 5 with (fail)
 obtain⟨W4,hW4⟩:∃ W4,W4=((W3.setCell ⟨bk,ok+i,none⟩ (.int .i64 x1)).setCell ⟨bv,ov+i,none⟩ (.int .i64 x2)).drew:=⟨_,rfl⟩;have H8:=aq (show Cop n g W4 { t with words:=Oc.putW t.words i true,keys:=t.keys.set i x1,vals:=t.vals.set i x2,counts:=t.counts.set q (y+1) } a/\Turned g a w W4 by rw [hW4];exact⟨H7.out.1.below ((Below.refl _ _).drew),((H5.out.2.trans H6.out.2).trans H7.out.2).trans (Turned.of_below ((Below.refl _ _).drew))⟩)
 first | rw [<-hW4] | skip
 clear hW4 H5 H6 H7 keep3 ck cv fk fv hHeld P3;obtain⟨_,c0,c1,c2,c3,c4,c5,cf⟩:=H8.out.1.box;have cf5:=cf 5
 dsimp only at c0 c1 c2 c3 c4 c5
 have KL:IntKind.u64.wrap ((t.laid:Int)+1)=(((t.laid+1) % 18446744073709551616:Nat):Int):=by rw [IntKind.wrap_u64];omega
 have H9:=aq (H8.out.1.laid ((t.laid+1) % 18446744073709551616));clear cf;go_wp2
 try rw [KL]
 go_end0
 rw [HE.out,HSQ.out,HY.out];exact⟨rfl,H9.out.1,H8.out.2.trans H9.out.2⟩
theorem Cop.start {n:Nat} {w2:World} {s:Sl} {a:Ads} (own:Own w2 n s a) (sep:Sep a) (lies:Lies w2 n a) (t:TypeId) :
  Cop n w2.heap.size (w2.alloc (.cells (slCells s a) t)) s a/\Below w2.heap.size w2 (w2.alloc (.cells (slCells s a) t)):=by
 have hb:Below w2.heap.size w2 (w2.alloc (.cells (slCells s a) t)):=(Below.refl _ _).alloc (Nat.le_refl _) _;refine⟨⟨Box.new w2 s a t,own.below hb,sep,lies.size hb.size,fun p hp=>?_,fun p hp=>?_,fun p hp=>?_,fun p hp=>?_⟩,hb⟩
 ·have:=(lies.w p hp).2;omega
 ·have:=(lies.k p hp).2;omega
 ·have:=(lies.v p hp).2;omega
 ·have:=(lies.c p hp).2;omega
theorem Box.keep {n g:Nat} {W W':World} {s:Sl} {a:Ads} (h:Box W g s a) (hb:Below n W W') (hg:g < n):Box W' g s a :=
 have hc:∀ o,W'.cell? ⟨g,o,none⟩=W.cell? ⟨g,o,none⟩:=fun o=>hb.cell (p:=⟨g,o,none⟩) hg
 ⟨Nat.lt_of_lt_of_le h.lt hb.size,(hc 0).trans h.c0,(hc 1).trans h.c1,(hc 2).trans h.c2,(hc 3).trans h.c3,(hc 4).trans h.c4,(hc 5).trans h.c5,fun o=>(hb.frozen (p:=⟨g,o,none⟩) hg).trans (h.fz o)⟩
theorem PBox.keep {n g:Nat} {W W':World} {p:Int×Int} (h:PBox W g p) (hb:Below n W W') (hg:g < n):PBox W' g p :=
 ⟨Nat.lt_of_lt_of_le h.lt hb.size,(hb.cell (p:=⟨g,0,none⟩) hg).trans h.c0,(hb.cell (p:=⟨g,1,none⟩) hg).trans h.c1,(hb.frozen (p:=⟨g,0,none⟩) hg).trans h.f0,(hb.frozen (p:=⟨g,1,none⟩) hg).trans h.f1⟩
theorem Cop.ans {n g r B:Nat} {w W:World} {s:Sl} {a:Ads} (h:Cop n g W s a) (hb:Below B w W) (hB:B<=n) (hr:r < n) (hB2:B<=r) (u0 u1 u2 u3 u4 u5:Value) :
  Own (put6 W r u0 u1 u2 u3 u4 u5) B s a/\Below B w (put6 W r u0 u1 u2 u3 u4 u5) :=
 ⟨⟨(h.own.words.put6 hr _ _ _ _ _ _).lower hB,(h.own.keys.put6 hr _ _ _ _ _ _).lower hB,(h.own.vals.put6 hr _ _ _ _ _ _).lower hB,(h.own.counts.put6 hr _ _ _ _ _ _).lower hB,h.own.caps⟩,below_put6 hb hB2 _ _ _ _ _ _⟩
theorem cClear (s:Sl) (a:Ads) (i:Int) (w:World) (h:Held w s a) (hok:s.Ok) (hs:s.Short) (hT:Tab w) :
  Calls Tryz.prog 153 #[slv s a,.int .i64 i] w (Ans (s.clearS i) (s.atE i) w):=by
 have HB:=aq (fun o o'=>((Below.refl w.heap.size w).alloc (Nat.le_refl _) o).alloc (by simp) o');have CA:=aq (fun o o'=>sAt s a i ((w.alloc o).alloc o') (h.below (HB.out o o')) hok hs (hT.below (HB.out o o')));have CT:=aq (fun W (hb:Below w.heap.size w W)=>sTwin s a W (h.below hb) hs);have BX:=aq (fun o'=>(Box.new w s a 29).below ((Below.refl _ _).alloc (Nat.le_refl _) o'));have RX:=aq (Box.new (w.alloc (.cells (slCells s a) 29)) Sl.none adsNone 29);have HOK:=aq hok;have HSh:=aq hs;clear h hok hs hT;unfold slv at CA CT ⊢;unfold slCells at RX;rw [World.size_alloc] at RX
 dsimp only [Sl.none,adsNone,List.length_nil] at RX
 by_cases hk:s.atE i=0
 ·obtain⟨hm,h0,h1,hbit⟩:=at_parts hk
  obtain⟨k,rfl⟩:∃ k:Nat,i=k:=⟨i.toNat,by omega⟩;have HL:=aq (show s.clearS k=s.emptied k by unfold Sl.clearS;rw [if_pos hk,Int.toNat_natCast]);have HK:=aq hk;have HM:=aq (may_iff.1 hm)
  have hki:k < s.keys.length:=by omega
  clear hk hm hbit
  go_enter Tryz.func153,Tryz.ntmps153
  go_wp2_with fail
  refine (CA.out _ _).mono ?_;rintro e w1 ⟨rfl,hb⟩;rw [HK.out];unfold pv;have B1:=aq ((HB.out _ _).trans (hb.mono (HB.out _ _).size))
  have z1:w.heap.size+2<=w1.heap.size:=by have:=hb.size;simp at this;omega
  have bx1:=aq ((BX.out _).below hb);have rx1:=aq (RX.out.below hb);clear hb
  go_upto_region 2 with (fail)
  obtain⟨V1,hV1⟩:∃ V,V=w1.alloc (.cells #[.int .i64 (s.atV k).1,.int .i64 (s.atV k).2] 93):=⟨_,rfl⟩
  have hbv:Below w1.heap.size w1 V1:=by rw [hV1];exact (Below.refl _ _).alloc (Nat.le_refl _) _
  have B2:=aq (B1.out.trans (hbv.mono B1.out.size));have bx2:=aq (bx1.out.below hbv);have rx2:=aq (rx1.out.below hbv);have z2:=hbv.size
  first | rw [<-hV1] | skip
  clear hV1 hbv bx1 rx1 B1;obtain⟨_,c0,c1,c2,c3,c4,c5,_⟩:=bx2.out
  go_wp2_with fail
  refine (CT.out _ B2.out).mono ?_;rintro e w2 ⟨a1,rfl,own,sep,lies,hb⟩;have B3:=aq (B2.out.trans (hb.mono B2.out.size));have rx3:=aq (rx2.out.below hb);have z3:=hb.size;have CS:=aq (Cop.start own sep lies 209);clear hb c0 c1 c2 c3 c4 c5 own sep lies;unfold slv
  go_upto_region 5 with (fail)
  obtain⟨W3,hW3⟩:∃ W,W=w2.alloc (.cells (slCells s a1) 209):=⟨_,rfl⟩;rw [<-hW3] at CS;have rx4:=aq (rx3.out.below CS.out.2);have B4:=aq (B3.out.trans (CS.out.2.mono B3.out.size));have z4:=CS.out.2.size;unfold slCells at hW3;rw [<-hW3];clear hW3 rx3 B3;have CL:=aq (sClear V1.heap.size w2.heap.size s a1 k W3 CS.out.1 HM.out HOK.out HSh.out hki (by omega))
  go_wp2_with fail
  refine CL.out.mono ?_;rintro e w4 ⟨rfl,C4',T4'⟩;have C4:=aq C4';have hb4:=T4'.below CS.out.1 (by omega) (by omega);have B5:=aq (B4.out.trans (hb4.mono B2.out.size));have rx5:=aq (rx4.out.keep hb4 (by omega));clear C4' T4' hb4;obtain⟨_,c0,c1,c2,c3,c4,c5,_⟩:=C4.out.box;obtain⟨_,s0,s1,s2,s3,s4,s5,sf⟩:=rx5.out;have⟨sf0,sf1,sf2,sf3,sf4,sf5⟩:=sf6 sf;have FIN:=aq (C4.out.ans (r:=w.heap.size+1) (B:=w.heap.size) B5.out (by omega) (by omega) (by omega));clear sf;go_wp2;refine bodyPost_ret (v:=.tuple #[slv (s.emptied k) a1,.int .i64 0]) (by simp [results,Tryz.results153,go_sem,slv,s0,s1,s2,s3,s4,s5,sf0,sf1,sf2,sf3,sf4,sf5]) rfl ?_;rw [HL.out,HK.out];exact⟨_,rfl,FIN.out _ _ _ _ _ _⟩
 ·have V:=aq (clearS_no (s:=s) (i:=i) hk)
  obtain⟨E,hE⟩:∃ E,E=s.atE i:=⟨_,rfl⟩
  have hEn:(E != 0)=true:=by rw [hE];simp [hk]
  have HK:=aq hE;clear hk;unfold AtPost at CA;rw [<-hE] at CA;clear hE
  go_enter Tryz.func153,Tryz.ntmps153
  go_wp2_with fail
  refine (CA.out _ _).mono ?_;rintro e w1 ⟨rfl,hb⟩;unfold pv;have B1:=aq ((HB.out _ _).trans (hb.mono (HB.out _ _).size))
  have z1:w.heap.size+2<=w1.heap.size:=by have:=hb.size;simp at this;omega
  have rx1:=aq (RX.out.below hb);clear hb
  go_upto_region 2 with (fail)
  obtain⟨V1,hV1⟩:∃ V,V=w1.alloc (.cells #[.int .i64 (s.atV i).1,.int .i64 (s.atV i).2] 93):=⟨_,rfl⟩
  have hbv:Below w1.heap.size w1 V1:=by rw [hV1];exact (Below.refl _ _).alloc (Nat.le_refl _) _
  have B2:=aq (B1.out.trans (hbv.mono B1.out.size));obtain⟨_,s0,s1,s2,s3,s4,s5,sf⟩:=rx1.out.below hbv;have⟨sf0,sf1,sf2,sf3,sf4,sf5⟩:=sf6 sf
  dsimp only [List.length_nil] at s0 s1 s2 s3 s4 s5
  first | rw [<-hV1] | skip
  clear hV1 hbv sf;go_wp2;refine bodyPost_ret (v:=.tuple #[slv Sl.none adsNone,.int .i64 E]) (by simp [results,Tryz.results153,go_sem,slv,Sl.none,adsNone,s0,s1,s2,s3,s4,s5,sf0,sf1,sf2,sf3,sf4,sf5]) rfl ?_;rw [V.out,<-HK.out];exact⟨_,rfl,(none_own _ _).1,by first | (with_reducible exact B2.out) | (exact below_put6 (g:=w.heap.size+1) B2.out (by omega) _ _ _ _ _ _)⟩
end Go.Proofs.YtpeckljoannolaaGreatDoor
